import PyProof.Rows.All
import Wide.All
import OpenK.AllK
import Wide.FinOn
import HandS.ForMost
import HandS.ForExc
import HandS.ExcInit
import HandS.ExcField
import HandS.OwnEq
import HandS.Deep
import HandS.TupAny
import HandS.IsInst
import HandS.Wide
import HandS.Small
import HandS.Property
import HandS.ExcValue
import HandS.ExcIs
import KE.KExcIs
import KE.DataFind
import HandS.TupMul
import KE.KRevSl
import HandS.Zip
import KE.GoesEnum
import HandS.NoneIn
import HandS.Strs
import HandS.Style
import PySem.Challenge.RW_unlikehands_k02_staffs_refused
set_option Elab.async false
set_option linter.all false
set_option maxRecDepth 100000
set_option maxHeartbeats 4100000
namespace Vm
open L2 PyProof.Rows PySem PySem.Spec

/-! ### a mirror's values and heap: places in place of addresses -/
inductive U where
  | non | bl (b : Bool) | int (i : Int) | str (x : Str) | loc (n : Nat) | scr | exn | dat (d : PyData) | obj (c : Nat) (fs : List (Str × U)) | pr (ds : List PyData)
inductive O where
  | lst (xs : List U) | tup (xs : List U) | tpl (xs : List U) | ins (c : Nat) (fs : List (Str × U)) | exc (c : Nat) (fs : List (Str × U)) | ded
abbrev Mh := List O
inductive R (α : Type) where
  | ok (a : α) (h : Mh) | ex (c : Nat) (f : List (Str × U)) (h : Mh) | stuck
def R.bind {α β : Type} (r : R α) (f : α → Mh → R β) : R β := match r with
  | .ok a h => f a h
  | .ex c g h => .ex c g h
  | .stuck => .stuck
abbrev Sl := List (Option U)
abbrev Me := Sl → Mh → R U

/-- what is fixed through a law's call: the classes' addresses, the written part, the script -/
structure Gc where
  cl : Nat → Addr
  K : PySem.W.Frag
  sa : Addr
  ns : List Int
  exn : Option (Addr × Addr × List (Str × U)) := none

/-- a world: the mirror's objects in their order; what is frozen for ever; what is locked for now -/
structure Wd where
  as : List Addr
  fz : Hp
  lk : Hp
structure Wd.Le (r r' : Wd) : Prop where
  as : r.as <+: r'.as
  fz : ∀ a o, r.fz a = some o → r'.fz a = some o
  lk : r'.lk = r.lk
  nw : ∀ a, r.fz a = none → r.lk a ≠ none → r'.fz a = none
/-- as far as values hang on it -/
structure Wd.Lx (r r' : Wd) : Prop where
  as : r.as <+: r'.as
  fz : ∀ a o, r.fz a = some o → r'.fz a = some o
theorem Wd.Le.lx {r r' : Wd} (e : Wd.Le r r') : Wd.Lx r r' := ⟨e.as, e.fz⟩
theorem Wd.Lx.trans {r r' r2 : Wd} (e : Wd.Lx r r') (e' : Wd.Lx r' r2) : Wd.Lx r r2 := ⟨e.as.trans e'.as, fun a o h => e'.fz a o (e.fz a o h)⟩
theorem Wd.refl (r : Wd) : Wd.Le r r := ⟨List.prefix_refl _, fun _ _ h => h, rfl, fun _ h _ => h⟩
theorem Wd.Le.trans {r r' r2 : Wd} (e : Wd.Le r r') (e' : Wd.Le r' r2) : Wd.Le r r2 :=
  ⟨e.as.trans e'.as, fun a o h => e'.fz a o (e.fz a o h), e'.lk.trans e.lk, fun a h1 h2 => e'.nw a (e.nw a h1 h2) (by rw [e.lk]; exact h2)⟩
def Wd.snoc (r : Wd) (p : Addr) : Wd := ⟨r.as ++ [p], r.fz, r.lk⟩
def comp : PyData → Bool
  | .list _ => true
  | .tuple _ => true
  | _ => false
/-- an exact tuple: one made, or a constant of the module -/
def DT (K : PySem.W.Frag) (H : Hp) (a : Addr) (xs : List V) : Prop := (∃ o, H a = some (.frz o (.tup xs)) ∧ o.dict = none) ∨
  ∃ (o : Obj) (its : Array Value) (n : Nat), K.lookup a = some o ∧ o.cls = .type "tuple" ∧ o.dict = none ∧ o.data = .seq its n ∧ its.size ≤ sizeLine ∧ Vals xs its.toList
theorem DT.sq {K : PySem.W.Frag} {H : Hp} {a : Addr} {xs : List V} (h : DT K H a xs) : SqT K H a xs := by
  rcases h with ⟨o, h, _⟩ | ⟨o, its, n, h1, h2, _, h3, h4, h5⟩
  · exact .inl (.inr ⟨o, h⟩)
  · exact .inr ⟨o, its, n, h1, h2, h3, h4, h5⟩
mutual
/-- data whose lists are no constants of the module -/
inductive Dq (K : PySem.W.Frag) (H : Hp) : V → PyData → Prop
  | non : Dq K H .non .none
  | bl (b : Bool) : Dq K H (.bl b) (.bool b)
  | int (i : Int) : Dq K H (.int i) (.int i)
  | str (x : Str) : Dq K H (.str x) (.str x)
  | lst {a : Addr} {xs : List V} {ds : List PyData} : H a = some (.lst xs) → DqAll K H xs ds → Dq K H (.ref a) (.list ds)
  | tup {a : Addr} {xs : List V} {ds : List PyData} : DT K H a xs → DqAll K H xs ds → Dq K H (.ref a) (.tuple ds)
inductive DqAll (K : PySem.W.Frag) (H : Hp) : List V → List PyData → Prop
  | nil : DqAll K H [] []
  | cons {v : V} {vs : List V} {d : PyData} {ds : List PyData} : Dq K H v d → DqAll K H vs ds → DqAll K H (v :: vs) (d :: ds)
end
mutual
/-- a frozen thing: data, or an instance of an own class -/
inductive Ro (K : PySem.W.Frag) (cl : Nat → Addr) (H : Hp) : U → V → Prop
  | non : Ro K cl H .non .non
  | bl (b : Bool) : Ro K cl H (.bl b) (.bl b)
  | int (i : Int) : Ro K cl H (.int i) (.int i)
  | str (x : Str) : Ro K cl H (.str x) (.str x)
  | dat {d : PyData} {v : V} : comp d = true → Dq K H v d → Ro K cl H (.dat d) v
  | obj {c : Nat} {fs : List (Str × U)} {a dx : Addr} {gs : List (Str × V)} : H a = some (.ins (cl c) dx gs) → Rof K cl H fs gs → Ro K cl H (.obj c fs) (.ref a)
inductive Rof (K : PySem.W.Frag) (cl : Nat → Addr) (H : Hp) : List (Str × U) → List (Str × V) → Prop
  | nil : Rof K cl H [] []
  | cons {n : Str} {u : U} {v : V} {fs : List (Str × U)} {gs : List (Str × V)} : Ro K cl H u v → Rof K cl H fs gs → Rof K cl H ((n, u) :: fs) ((n, v) :: gs)
end
abbrev Hle (H H' : Hp) : Prop := ∀ a o, H a = some o → H' a = some o
theorem SqL.hle {K : PySem.W.Frag} {H H' : Hp} {a : Addr} {xs : List V} (h : SqL K H a xs) (e : Hle H H') : SqL K H' a xs := by
  rcases h with (h
                   | ⟨o, h⟩) | h
  · exact .inl (.inl (e _ _ h))
  · exact .inl (.inr
                     ⟨o, e _ _ h⟩)
  · exact .inr h
theorem SqT.hle {K : PySem.W.Frag} {H H' : Hp} {a : Addr} {xs : List V} (h : SqT K H a xs) (e : Hle H H') : SqT K H' a xs := by
  rcases h with (h
                   | ⟨o, h⟩) | h
  · exact .inl (.inl (e _ _ h))
  · exact .inl (.inr
                     ⟨o, e _ _ h⟩)
  · exact .inr h
theorem DT.hle {K : PySem.W.Frag} {H H' : Hp} {a : Addr} {xs : List V} (h : DT K H a xs) (e : Hle H H') : DT K H' a xs := by
  rcases h with ⟨o, h, d⟩ | h
  · exact .inl ⟨o, e _ _ h, d⟩
  · exact .inr h
mutual
theorem Dq.hle {K : PySem.W.Frag} {H H' : Hp} (e : Hle H H') : ∀ (d : PyData) (v : V), Dq K H v d → Dq K H' v d
  | .none, _, h => by cases h; exact .non
  | .bool b, _, h => by cases h; exact .bl b
  | .int i, _, h => by cases h; exact .int i
  | .str x, _, h => by cases h; exact .str x
  | .list ds, _, h => by
    cases h with
    | lst hs ha => exact .lst (e _ _ hs) (DqAll.hle e ds _ ha)
  | .tuple ds, _, h => by
    cases h with
    | tup hs ha => exact .tup (DT.hle hs e) (DqAll.hle e ds _ ha)
  | .dict _, _, h => by cases h
theorem DqAll.hle {K : PySem.W.Frag} {H H' : Hp} (e : Hle H H') : ∀ (ds : List PyData) (vs : List V), DqAll K H vs ds → DqAll K H' vs ds
  | [], _, h => by cases h; exact .nil
  | d :: ds, _, h => by
    cases h with
    | cons h1 h2 => exact .cons (Dq.hle e d _ h1) (DqAll.hle e ds _ h2)
end
mutual
theorem Dq.dp {K : PySem.W.Frag} {H : Hp} : ∀ (d : PyData) (v : V), Dq K H v d → Dp K H v d
  | .none, _, h => by cases h; exact .non
  | .bool b, _, h => by cases h; exact .bl b
  | .int i, _, h => by cases h; exact .int i
  | .str x, _, h => by cases h; exact .str x
  | .list ds, _, h => by
    cases h with
    | lst hs ha => exact .lst (SqL.of hs) (DqAll.dp ds _ ha)
  | .tuple ds, _, h => by
    cases h with
    | tup hs ha => exact .tup hs.sq (DqAll.dp ds _ ha)
  | .dict _, _, h => by cases h
theorem DqAll.dp {K : PySem.W.Frag} {H : Hp} : ∀ (ds : List PyData) (vs : List V), DqAll K H vs ds → DpAll K H vs ds
  | [], _, h => by cases h; exact .nil
  | d :: ds, _, h => by
    cases h with
    | cons h1 h2 => exact .cons (Dq.dp d _ h1) (DqAll.dp ds _ h2)
end
mutual
theorem Ro.hle {K : PySem.W.Frag} {cl : Nat → Addr} {H H' : Hp} (e : Hle H H') : ∀ {u : U} {v : V}, Ro K cl H u v → Ro K cl H' u v
  | _, _, .non => .non
  | _, _, .bl b => .bl b
  | _, _, .int b => .int b
  | _, _, .str b => .str b
  | _, _, .dat k h => .dat k (Dq.hle e _ _ h)
  | _, _, .obj h hf => .obj (e _ _ h) (Rof.hle e hf)
theorem Rof.hle {K : PySem.W.Frag} {cl : Nat → Addr} {H H' : Hp} (e : Hle H H') : ∀ {us : List (Str × U)} {vs : List (Str × V)}, Rof K cl H us vs → Rof K cl H' us vs
  | _, _, .nil => .nil
  | _, _, .cons h hf => .cons (Ro.hle e h) (Rof.hle e hf)
end
def Rl (g : Gc) (ρ : Wd) : U → V → Prop
  | .non, v => v = .non
  | .bl b, v => v = .bl b
  | .int i, v => v = .int i
  | .str x, v => v = .str x
  | .loc n, v => ∃ a, ρ.as[n]? = some a ∧ v = .ref a
  | .scr, v => v = .ref g.sa
  | .exn, v => ∃ a dd fs, g.exn = some (a, dd, fs) ∧ v = .ref a
  | .dat d, v => comp d = true ∧ Dq g.K ρ.fz v d
  | .obj c fs, v => Ro g.K g.cl ρ.fz (.obj c fs) v
  | .pr ds, v => ∃ a vs, v = .ref a ∧ ρ.fz a = some (.tup vs) ∧ DqAll g.K ρ.fz vs ds
abbrev Rls (g : Gc) (ρ : Wd) : List U → List V → Prop := Paired (Rl g ρ)
def Rf (g : Gc) (ρ : Wd) : List (Str × U) → List (Str × V) → Prop := Paired fun p q => p.1 = q.1 ∧ Rl g ρ p.2 q.2
def Rol (g : Gc) (ρ : Wd) : Option U → Option V → Prop
  | some w, some v => Rl g ρ w v
  | none, _ => True
  | some _, none => False
abbrev Rsl (g : Gc) (ρ : Wd) : Sl → L2.St → Prop := Paired (Rol g ρ)
def Om (g : Gc) (ρ : Wd) (H : Hp) (a : Addr) : O → Prop
  | .lst xs => ∃ vs, Rls g ρ xs vs ∧ H a = some (.lst vs)
  | .tup xs => ∃ vs o, Rls g ρ xs vs ∧ o.dict = none ∧ H a = some (.frz o (.tup vs))
  | .tpl xs => ∃ vs, Rls g ρ xs vs ∧ H a = some (.tup vs)
  | .ins c fs => ∃ dx gs, Rf g ρ fs gs ∧ H a = some (.ins (g.cl c) dx gs)
  | .exc c fs => (fs = [] ∧ H a = some (exo a (g.cl c) none)) ∨ ∃ dx gs, Rf g ρ fs gs ∧ H a = some (exo a (g.cl c) (some dx)) ∧ H dx = some (exd dx gs)
  | .ded => ∃ u, H a = some u
/-- the script: locked, or of the written part -/
def Scr (g : Gc) (H : Hp) : Prop := (∃ o, H g.sa = some (.frz o (.lst (g.ns.map V.int)))) ∨
  ∃ (o : Obj) (its : Array Value) (n : Nat), g.K.lookup g.sa = some o ∧ o.cls = .type "list" ∧ o.dict = none ∧ o.data = .seq its n ∧ its.size ≤ sizeLine ∧ Vals (g.ns.map V.int) its.toList
structure Cs (g : Gc) (ρ : Wd) (h : Mh) (H : Hp) : Prop where
  len : ρ.as.length = h.length
  at_ : ∀ (n : Nat) (o : O) (a : Addr), h[n]? = some o → ρ.as[n]? = some a → Om g ρ H a o
  inj : ρ.as.Nodup
  scr : Scr g H
  xn : ∀ a dd fs, g.exn = some (a, dd, fs) → ∃ gs, Rf g ρ fs gs ∧ H dd = some (.xd gs)
  fzH : Hle ρ.fz H
  lkH : Hle ρ.lk H
  apt : ∀ (n : Nat) (o : O) (a : Addr), h[n]? = some o → ρ.as[n]? = some a → ρ.lk a = none ∧ (o ≠ .ded → ρ.fz a = none)
  nfl : ∀ a o xs, ρ.fz a ≠ some (.frz o (.lst xs))

section
variable {g : Gc} {ρ ρ' : Wd} {h h' : Mh} {H H' : Hp}

theorem pre_getx {n : Nat} {a : Addr} (e : Wd.Lx ρ ρ') (q : ρ.as[n]? = some a) : ρ'.as[n]? = some a := by
  obtain ⟨t, ht⟩ := e.as
  obtain ⟨hl, _⟩ := List.getElem?_eq_some_iff.mp q
  rw [← ht, List.getElem?_append_left hl]
  exact q
theorem pre_get {n : Nat} {a : Addr} (e : Wd.Le ρ ρ') (q : ρ.as[n]? = some a) : ρ'.as[n]? = some a := pre_getx e.lx q
theorem Rl.mx {u : U} {v : V} (e : Wd.Lx ρ ρ') (r : Rl g ρ u v) : Rl g ρ' u v := by
  cases u with
  | loc n =>
    obtain ⟨a, q, rfl⟩ := r
    exact ⟨a, pre_getx e q, rfl⟩
  | dat d => exact ⟨r.1, Dq.hle e.fz _ _ r.2⟩
  | obj c fs => exact Ro.hle e.fz r
  | pr ds => obtain ⟨a, vs, q, q1, q2⟩ := r; exact ⟨a, vs, q, e.fz _ _ q1, DqAll.hle e.fz _ _ q2⟩
  | _ => exact r
theorem Rl.mono {u : U} {v : V} (e : Wd.Le ρ ρ') (r : Rl g ρ u v) : Rl g ρ' u v := Rl.mx e.lx r
theorem Rls.mx {us : List U} {vs : List V} (e : Wd.Lx ρ ρ') (r : Rls g ρ us vs) : Rls g ρ' us vs := Paired.mapP r fun _ _ q => Rl.mx e q
theorem Rf.mx {us : List (Str × U)} {vs : List (Str × V)} (e : Wd.Lx ρ ρ') (r : Rf g ρ us vs) : Rf g ρ' us vs := Paired.mapP r fun _ _ q => ⟨q.1, Rl.mx e q.2⟩
theorem Rls.mono {us : List U} {vs : List V} (e : Wd.Le ρ ρ') (r : Rls g ρ us vs) : Rls g ρ' us vs := Paired.mapP r fun _ _ q => Rl.mono e q
theorem Rf.mono {us : List (Str × U)} {vs : List (Str × V)} (e : Wd.Le ρ ρ') (r : Rf g ρ us vs) : Rf g ρ' us vs := Paired.mapP r fun _ _ q => ⟨q.1, Rl.mono e q.2⟩
theorem Rol.mono {u : Option U} {v : Option V} (e : Wd.Le ρ ρ') (r : Rol g ρ u v) : Rol g ρ' u v := by
  cases u with
  | none => trivial
  | some w =>
    cases v with
    | none => exact r
    | some v => exact Rl.mono e r
theorem Rsl.mono {us : Sl} {vs : L2.St} (e : Wd.Le ρ ρ') (r : Rsl g ρ us vs) : Rsl g ρ' us vs := Paired.mapP r fun _ _ q => Rol.mono e q
theorem Paired.get {α β : Type} {F : α → β → Prop} : ∀ {xs : List α} {ys : List β} {i : Nat} {x : α}, Paired F xs ys → xs[i]? = some x → ∃ y, ys[i]? = some y ∧ F x y
  | _, _, _, _, .nil, here => by simp at here
  | _, _, 0, _, .cons r _, here => by simp at here; subst here; exact ⟨_, rfl, r⟩
  | _, _, i + 1, x, .cons _ t, e => id <| by
    obtain ⟨u, h1, h2⟩ := Paired.get (i := i) (x := x) t (by simpa using e); exact ⟨u, by simpa using h1, h2⟩
theorem Paired.set {α β : Type} {F : α → β → Prop} {x : α} {y : β} (q : F x y) : ∀ {xs : List α} {ys : List β} (i : Nat), Paired F xs ys → Paired F (xs.set i x) (ys.set i y)
  | _, _, _, .nil => .nil
  | _, _, 0, .cons _ t => .cons q t
  | _, _, i + 1, .cons r t => .cons r (Paired.set q i t)
theorem Paired.app {α β : Type} {F : α → β → Prop} : ∀ {xs zs : List α} {ys ws : List β}, Paired F xs ys → Paired F zs ws → Paired F (xs ++ zs) (ys ++ ws)
  | _, _, _, _, .nil, s => s
  | _, _, _, _, .cons r t, s => .cons r (Paired.app t s)
theorem Paired.dropP {α β : Type} {F : α → β → Prop} : ∀ {xs : List α} {ys : List β} (n : Nat), Paired F xs ys → Paired F (xs.drop n) (ys.drop n)
  | _, _, 0, r => r
  | _, _, _ + 1, .nil => .nil
  | _, _, n + 1, .cons _ t => Paired.dropP n t
theorem Paired.takeP {α β : Type} {F : α → β → Prop} : ∀ {xs : List α} {ys : List β} (n : Nat), Paired F xs ys → Paired F (xs.take n) (ys.take n)
  | _, _, 0, _ => .nil
  | _, _, _ + 1, .nil => .nil
  | _, _, n + 1, .cons r t => .cons r (Paired.takeP n t)
theorem Paired.rep {α β : Type} {F : α → β → Prop} {x : α} {y : β} (q : F x y) : ∀ n : Nat, Paired F (List.replicate n x) (List.replicate n y)
  | 0 => .nil
  | n + 1 => .cons q (Paired.rep q n)
theorem Rls.somes {us : List U} {vs : List V} : Rls g ρ us vs → Rsl g ρ (us.map some) (vs.map some) := fun r => by
  induction r with
  | nil => exact .nil
  | cons q _ ih => exact .cons q ih

theorem Cs.get (c : Cs g ρ h H) {n : Nat} {o : O} (e : h[n]? = some o) : ∃ a, ρ.as[n]? = some a ∧ Om g ρ H a o := by
  have hl : n < ρ.as.length := by
    rw [c.len]; exact (List.getElem?_eq_some_iff.mp e).1
  exact ⟨ρ.as[n], List.getElem?_eq_getElem hl, c.at_ n o _ e (List.getElem?_eq_getElem hl)⟩
theorem Cs.lst (c : Cs g ρ h H) {n : Nat} {xs : List U} {v : V} (e : h[n]? = some (.lst xs)) (r : Rl g ρ (.loc n) v) : ∃ a vs, v = .ref a ∧ ρ.as[n]? = some a ∧ Rls g ρ xs vs ∧ H a = some (.lst vs) := by
  obtain ⟨a, q, rfl⟩ := r
  obtain ⟨vs, rv, eh⟩ := c.at_ n _ a e q
  exact ⟨a, vs, rfl, q, rv, eh⟩
theorem Cs.tup (c : Cs g ρ h H) {n : Nat} {xs : List U} {v : V} (e : h[n]? = some (.tup xs)) (r : Rl g ρ (.loc n) v) : ∃ a vs o, v = .ref a ∧ ρ.as[n]? = some a ∧ Rls g ρ xs vs ∧ o.dict = none ∧ H a = some (.frz o (.tup vs)) := by
  obtain ⟨a, q, rfl⟩ := r
  obtain ⟨vs, o, rv, d, eh⟩ := c.at_ n _ a e q
  exact ⟨a, vs, o, rfl, q, rv, d, eh⟩
theorem Cs.tpl (c : Cs g ρ h H) {n : Nat} {xs : List U} {v : V} (e : h[n]? = some (.tpl xs)) (r : Rl g ρ (.loc n) v) : ∃ a vs, v = .ref a ∧ ρ.as[n]? = some a ∧ Rls g ρ xs vs ∧ H a = some (.tup vs) := by
  obtain ⟨a, q, rfl⟩ := r
  obtain ⟨vs, rv, eh⟩ := c.at_ n _ a e q
  exact ⟨a, vs, rfl, q, rv, eh⟩
theorem Om.some {a : Addr} {o : O} (m : Om g ρ H a o) : ∃ u, H a = some u := by
  cases o with
  | lst xs => obtain ⟨vs, _, e⟩ := m; exact ⟨_, e⟩
  | tup xs => obtain ⟨vs, o, _, _, e⟩ := m; exact ⟨_, e⟩
  | tpl xs => obtain ⟨vs, _, e⟩ := m; exact ⟨_, e⟩
  | ins c fs => obtain ⟨dx, gs, _, e⟩ := m; exact ⟨_, e⟩
  | exc c fs =>
    rcases m with ⟨_, e⟩ | ⟨dx, gs, _, e, _⟩
    · exact ⟨_, e⟩
    · exact ⟨_, e⟩
  | ded => exact m
theorem Cs.trk (c : Cs g ρ h H) {a : Addr} (m : a ∈ ρ.as) : ∃ u, H a = some u := by
  obtain ⟨n, hn, e⟩ := List.getElem_of_mem m
  have hl : n < h.length := by rw [← c.len]; exact hn
  have e2 : ρ.as[n]? = some a := by rw [List.getElem?_eq_getElem hn, e]
  exact (c.at_ n _ a (List.getElem?_eq_getElem hl) e2).some
theorem Om.rx {a : Addr} {o : O} {u : HO} {p : Addr} (e : Wd.Lx ρ ρ') (m : Om g ρ H a o) (hp : a ≠ p) (hx : ∀ φ : Heap → Prop, H p ≠ Option.some (HO.ext φ)) : Om g ρ' (upd H p u) a o := by
  cases o with
  | lst xs => obtain ⟨vs, r, q⟩ := m; exact ⟨vs, Rls.mx e r, by rw [upd_ne hp]; exact q⟩
  | tup xs => obtain ⟨vs, o, r, d, q⟩ := m; exact ⟨vs, o, Rls.mx e r, d, by rw [upd_ne hp]; exact q⟩
  | tpl xs => obtain ⟨vs, r, q⟩ := m; exact ⟨vs, Rls.mx e r, by rw [upd_ne hp]; exact q⟩
  | ins c fs => obtain ⟨dx, gs, r, q⟩ := m; exact ⟨dx, gs, Rf.mx e r, by rw [upd_ne hp]; exact q⟩
  | exc c fs =>
    rcases m with ⟨e0, q⟩ | ⟨dx, gs, r, q, q2⟩
    · exact .inl ⟨e0, by rw [upd_ne hp]; exact q⟩
    · exact .inr ⟨dx, gs, Rf.mx e r, by rw [upd_ne hp]; exact q, by
        rw [upd_ne]
        · exact q2
        · intro z
          rw [z] at q2
          exact hx _ q2⟩
  | ded => obtain ⟨w, q⟩ := m; exact ⟨w, by rw [upd_ne hp]; exact q⟩
theorem Om.ren {a : Addr} {o : O} {u : HO} {p : Addr} (e : Wd.Le ρ ρ') (m : Om g ρ H a o) (hp : a ≠ p) (hx : ∀ φ : Heap → Prop, H p ≠ Option.some (HO.ext φ)) : Om g ρ' (upd H p u) a o := Om.rx e.lx m hp hx
/-- an update where the script is not -/
theorem Scr.upd {p : Addr} {u : HO} (s : Scr g H) (hp : ∀ o w, H p ≠ some (.frz o w)) : Scr g (upd H p u) := by
  rcases s with ⟨o, e⟩ | k
  · refine .inl ⟨o, ?_⟩
    rw [upd_ne]
    · exact e
    · intro z
      rw [z] at e
      exact hp _ _ e
  · exact .inr k
theorem pre_snoc (ρ : Wd) (p : Addr) : Wd.Le ρ (ρ.snoc p) := ⟨⟨[p], rfl⟩, fun _ _ h => h, rfl, fun _ h _ => h⟩
theorem Hle.upd {F H : Hp} {p : Addr} {u : HO} (e : Hle F H) (hp : F p = none) : Hle F (upd H p u) := fun a o q => by
  rw [upd_ne (fun z => by rw [z, hp] at q; cases q)]
  exact e a o q
theorem Hle.free {F H : Hp} {p : Addr} (e : Hle F H) (hp : H p = none) : F p = none := by
  cases q : F p with
  | none => rfl
  | some o => rw [e p o q] at hp; cases hp
/-- a new object -/
theorem Cs.new (c : Cs g ρ h H) {p : Addr} {o : O} {u : HO} (hp : H p = none) (m : Om g (ρ.snoc p) (upd H p u) p o) : Cs g (ρ.snoc p) (h ++ [o]) (upd H p u) := by
  have np : p ∉ ρ.as := fun z => by
    obtain ⟨w, e⟩ := c.trk z
    rw [hp] at e
    cases e
  refine ⟨by rw [show (ρ.snoc p).as = ρ.as ++ [p] from rfl, List.length_append, List.length_append, c.len]; rfl, fun n o' a e1 e2 => ?_, ?_, c.scr.upd (fun o w z => by rw [hp] at z; cases z), fun a dd fs ex => ?_, c.fzH.upd (c.fzH.free hp), c.lkH.upd (c.lkH.free hp), fun n o' a e1 e2 => ?_, c.nfl⟩
  · by_cases hn : n < h.length
    · rw [List.getElem?_append_left hn] at e1
      rw [show (ρ.snoc p).as = ρ.as ++ [p] from rfl, List.getElem?_append_left (by rw [c.len]; exact hn)] at e2
      refine Om.ren (pre_snoc ρ p) (c.at_ n o' a e1 e2) (fun z => ?_) (fun φ z => by rw [hp] at z; cases z)
      exact np (z ▸ List.mem_of_getElem? e2)
    · have hl := (List.getElem?_eq_some_iff.mp e1).1
      rw [List.length_append] at hl
      have hn' : n = h.length := by
        have : [o].length = 1 := rfl
        omega
      subst hn'
      rw [List.getElem?_append_right (Nat.le_refl _), Nat.sub_self] at e1
      rw [show (ρ.snoc p).as = ρ.as ++ [p] from rfl, List.getElem?_append_right (by rw [c.len]; exact Nat.le_refl _), c.len, Nat.sub_self] at e2
      cases e1
      cases e2
      exact m
  · rw [show (ρ.snoc p).as = ρ.as ++ [p] from rfl, List.nodup_append]
    refine ⟨c.inj, by simp, fun a ha b hb => ?_⟩
    have : b = p := by simpa using hb
    subst this
    intro z
    subst z
    exact np ha
  · obtain ⟨gs, r, e⟩ := c.xn a dd fs ex
    refine ⟨gs, Rf.mono (pre_snoc ρ p) r, ?_⟩
    rw [upd_ne]
    · exact e
    · intro z
      rw [z, hp] at e
      cases e
  · by_cases hn : n < h.length
    · rw [List.getElem?_append_left hn] at e1
      rw [show (ρ.snoc p).as = ρ.as ++ [p] from rfl, List.getElem?_append_left (by rw [c.len]; exact hn)] at e2
      exact c.apt n o' a e1 e2
    · have hl := (List.getElem?_eq_some_iff.mp e1).1
      rw [List.length_append] at hl
      have hn' : n = h.length := by
        have : [o].length = 1 := rfl
        omega
      subst hn'
      rw [show (ρ.snoc p).as = ρ.as ++ [p] from rfl, List.getElem?_append_right (by rw [c.len]; exact Nat.le_refl _), c.len, Nat.sub_self] at e2
      cases e2
      exact ⟨c.lkH.free hp, fun _ => c.fzH.free hp⟩
theorem new_get (ρ : Wd) (p : Addr) (c : ρ.as.length = h.length) : (ρ.snoc p).as[h.length]? = some p := by
  rw [← c]
  simp [Wd.snoc]
/-- an address beside the mirror's -/
theorem Cs.skip (c : Cs g ρ h H) {p : Addr} {u : HO} (hp : H p = none) : Cs g ρ h (upd H p u) := by
  have np : p ∉ ρ.as := fun z => by
    obtain ⟨w, e⟩ := c.trk z
    rw [hp] at e
    cases e
  refine ⟨c.len, fun n o' a e1 e2 => Om.ren (Wd.refl ρ) (c.at_ n o' a e1 e2) (fun z => np (z ▸ List.mem_of_getElem? e2)) (fun φ z => by rw [hp] at z; cases z), c.inj, c.scr.upd (fun o w z => by rw [hp] at z; cases z), fun a dd fs ex => ?_, c.fzH.upd (c.fzH.free hp), c.lkH.upd (c.lkH.free hp), c.apt, c.nfl⟩
  obtain ⟨gs, r, e⟩ := c.xn a dd fs ex
  refine ⟨gs, r, ?_⟩
  rw [upd_ne]
  · exact e
  · intro z
    rw [z, hp] at e
    cases e
theorem Cs.live (c : Cs g ρ h H) {n : Nat} {a : Addr} {o : O} (en : h[n]? = some o) (ea : ρ.as[n]? = some a) (hd : o ≠ .ded := by intro z; cases z) : ρ.fz a = none ∧ ρ.lk a = none := ⟨(c.apt n o a en ea).2 hd, (c.apt n o a en ea).1⟩
theorem nfL {a : Addr} {vs : List V} (e : H a = some (.lst vs)) : (∀ o w, H a ≠ some (.frz o w)) ∧ (∀ φ : Heap → Prop, H a ≠ some (HO.ext φ)) ∧ ∀ gs, H a ≠ some (.xd gs) :=
  ⟨fun _ _ z => (by rw [e] at z; cases z), fun _ z => (by rw [e] at z; cases z), fun _ z => (by rw [e] at z; cases z)⟩
/-- a new frozen thing -/
def Wd.frz (r : Wd) (p : Addr) (u : HO) : Wd := ⟨r.as, upd r.fz p u, r.lk⟩
theorem Cs.frz_le (c : Cs g ρ h H) {p : Addr} {u : HO} (hp : H p = none) : Wd.Le ρ (ρ.frz p u) :=
  ⟨List.prefix_refl _, fun a o q => (by show upd ρ.fz p u a = some o; rw [upd_ne (fun z => by rw [z, c.fzH.free hp] at q; cases q)]; exact q), rfl, fun a h1 h2 => (by
    show upd ρ.fz p u a = none
    rw [upd_ne (fun z => by rw [z, c.lkH.free hp] at h2; exact h2 rfl)]
    exact h1)⟩
theorem Cs.newF (c : Cs g ρ h H) {p : Addr} {u : HO} (hp : H p = none) (hu : ∀ o xs, u ≠ .frz o (.lst xs)) : Cs g (ρ.frz p u) h (upd H p u) := by
  have np : p ∉ ρ.as := fun z => by
    obtain ⟨w, e⟩ := c.trk z
    rw [hp] at e
    cases e
  have le := c.frz_le (u := u) hp
  refine ⟨c.len, fun n o' a e1 e2 => Om.ren le (c.at_ n o' a e1 e2) (fun z => np (z ▸ List.mem_of_getElem? e2)) (fun φ z => by rw [hp] at z; cases z), c.inj, c.scr.upd (fun o w z => by rw [hp] at z; cases z), fun a dd fs ex => ?_, fun a o q => ?_, c.lkH.upd (c.lkH.free hp), fun n o' a e1 e2 => ?_, fun a o xs q => ?_⟩
  · obtain ⟨gs, r, e⟩ := c.xn a dd fs ex
    refine ⟨gs, Rf.mono le r, ?_⟩
    rw [upd_ne]
    · exact e
    · intro z
      rw [z, hp] at e
      cases e
  · by_cases z : a = p
    · subst z
      have q : upd ρ.fz a u a = some o := q
      rw [upd_same] at q ⊢
      exact q
    · have q : upd ρ.fz p u a = some o := q
      rw [upd_ne z] at q ⊢
      exact c.fzH a o q
  · have z : a ≠ p := fun z => np (z ▸ List.mem_of_getElem? e2)
    have q := c.apt n o' a e1 e2
    exact ⟨q.1, fun hd => by show upd ρ.fz p u a = none; rw [upd_ne z]; exact q.2 hd⟩
  · have q : upd ρ.fz p u a = some (.frz o (.lst xs)) := q
    by_cases z : a = p
    · subst z
      rw [upd_same] at q
      exact hu _ _ (Option.some.inj q)
    · rw [upd_ne z] at q
      exact c.nfl a o xs q
/-- an object rewritten -/
theorem Cs.put (c : Cs g ρ h H) {n : Nat} {a : Addr} {o : O} {u : HO} (e : ρ.as[n]? = some a) (nf : (∀ o w, H a ≠ some (.frz o w)) ∧ (∀ φ : Heap → Prop, H a ≠ some (HO.ext φ)) ∧ ∀ gs, H a ≠ some (.xd gs)) (m : Om g ρ (upd H a u) a o) (ap : ρ.fz a = none ∧ ρ.lk a = none) : Cs g ρ (h.set n o) (upd H a u) := by
  refine ⟨by rw [List.length_set]; exact c.len, fun n' o' a' e1 e2 => ?_, c.inj, c.scr.upd nf.1, fun a' dd fs ex => ?_, c.fzH.upd ap.1, c.lkH.upd ap.2, fun n' o' a' e1 e2 => ?_, c.nfl⟩
  · by_cases hn : n = n'
    · subst hn
      rw [e] at e2
      cases e2
      have hl : n < (h.set n o).length := (List.getElem?_eq_some_iff.mp e1).1
      rw [List.length_set] at hl
      rw [List.getElem?_set_self hl] at e1
      cases e1
      exact m
    · rw [List.getElem?_set_ne hn] at e1
      refine Om.ren (Wd.refl ρ) (c.at_ n' o' a' e1 e2) (fun z => ?_) nf.2.1
      subst z
      obtain ⟨h1, q1⟩ := List.getElem?_eq_some_iff.mp e
      obtain ⟨h2, q2⟩ := List.getElem?_eq_some_iff.mp e2
      exact hn ((List.getElem_inj c.inj).mp (q1.trans q2.symm))
  · obtain ⟨gs, r, e⟩ := c.xn a' dd fs ex
    refine ⟨gs, r, ?_⟩
    rw [upd_ne]
    · exact e
    · intro z
      rw [z] at e
      exact nf.2.2 _ e
  · by_cases hn : n = n'
    · subst hn
      rw [e] at e2
      cases e2
      exact ⟨ap.2, fun _ => ap.1⟩
    · rw [List.getElem?_set_ne hn] at e1
      exact c.apt n' o' a' e1 e2
end

/-! ### what is wanted behind a mirror's step -/
/-- an exception's wish: its class, its fields -/
def Xp (g : Gc) (ρ : Wd) (c : Nat) (f : List (Str × U)) (h : Mh) (E : XK) : Prop :=
  ∀ ρ' H, Wd.Le ρ ρ' → Cs g ρ' h H →
    (f = [] → E (.ref (g.cl c)) none H) ∧ ∀ d gs, f ≠ [] → H d = none → Rf g ρ' f gs → E (.ref (g.cl c)) (some d) (upd H d (.xd gs))
def Post {α β : Type} (g : Gc) (rel : Wd → α → β → Prop) (ρ : Wd) (r : R α) (Q : β → Hp → Prop) (E : XK) : Prop := match r with
  | .ok a h => ∀ ρ' b H, Wd.Le ρ ρ' → Cs g ρ' h H → rel ρ' a b → Q b H
  | .ex c f h => Xp g ρ c f h E
  | .stuck => False
/-- at a state: from here on -/
def At {α β : Type} (g : Gc) (rel : Wd → α → β → Prop) (m : Sl → Mh → R α) (E : XK) (σ : L2.St) (H : Hp) (Q : β → Hp → Prop) : Prop :=
  ∃ ρ s h, Rsl g ρ s σ ∧ Cs g ρ h H ∧ Post g rel ρ (m s h) Q E
abbrev relB : Wd → Bool → Bool → Prop := fun _ a b => a = b
/-- readings of expressions, tests, arguments -/
def T (g : Gc) (E : WX) (m : Me) : TE := fun σ H Q => At g (Rl g) m (WE E σ) σ H Q
def TB (g : Gc) (E : WX) (m : Sl → Mh → R Bool) : TT := fun σ H Q => At g relB m (WE E σ) σ H Q
def TL (g : Gc) (E : WX) (m : Sl → Mh → R (List U)) : TA := fun σ H Q => At g (Rls g) m (WE E σ) σ H Q
section
variable {g : Gc} {ρ ρ' : Wd} {h h' : Mh} {H H' : Hp} {E : XK} {α β γ δ : Type} {rel : Wd → α → β → Prop} {rel' : Wd → γ → δ → Prop}
theorem Xp.mono {c : Nat} {f : List (Str × U)} (e : Wd.Le ρ ρ') (x : Xp g ρ c f h E) : Xp g ρ' c f h E := fun ρ2 H2 e2 c2 => x ρ2 H2 (e.trans e2) c2
theorem Post.mono {r : R α} {Q : β → Hp → Prop} (e : Wd.Le ρ ρ') (p : Post g rel ρ r Q E) : Post g rel ρ' r Q E := by
  cases r with
  | ok a h => exact fun ρ2 b H2 e2 c2 r2 => p ρ2 b H2 (e.trans e2) c2 r2
  | ex c f h => exact Xp.mono e p
  | stuck => exact p
theorem Post.imp {r : R α} {Q Q' : β → Hp → Prop} (p : Post g rel ρ r Q E) (hq : ∀ b H, Q b H → Q' b H) : Post g rel ρ r Q' E := by
  cases r with
  | ok a h => exact fun ρ2 b H2 e2 c2 r2 => hq _ _ (p ρ2 b H2 e2 c2 r2)
  | ex c f h => exact p
  | stuck => exact p
/-- the state behind a step, and what is left -/
theorem Post.cut {r : R α} {f : α → Mh → R γ} {Q : δ → Hp → Prop} (p : Post g rel' ρ (r.bind f) Q E) :
    Post g rel ρ r (fun b H1 => ∃ ρ1 a h1, Wd.Le ρ ρ1 ∧ Cs g ρ1 h1 H1 ∧ rel ρ1 a b ∧ Post g rel' ρ1 (f a h1) Q E) E := by
  cases r with
  | ok a h => exact fun ρ2 b H2 e2 c2 r2 => ⟨ρ2, a, h, e2, c2, r2, Post.mono e2 p⟩
  | ex c f h => exact p
  | stuck => exact p
/-- in sequence: the next part m2 at the slots as they are -/
theorem At.seq {m : Sl → Mh → R α} {k : α → Sl → Mh → R γ} {σ : L2.St} {Q : δ → Hp → Prop} (a : At g rel' (fun s h => (m s h).bind fun x h1 => k x s h1) E σ H Q)
    {Q1 : β → Hp → Prop} (hq : ∀ ρ1 x s h1 b H1, Rsl g ρ1 s σ → Cs g ρ1 h1 H1 → rel ρ1 x b → Post g rel' ρ1 (k x s h1) Q E → Q1 b H1) : At g rel m E σ H Q1 := by
  obtain ⟨ρ, s, h, hs, c, p⟩ := a
  exact ⟨ρ, s, h, hs, c, (Post.cut (rel := rel) p).imp fun b H1 ⟨ρ1, x, h1, e1, c1, r1, p1⟩ => hq ρ1 x s h1 b H1 (Rsl.mono e1 hs) c1 r1 p1⟩
theorem Post.here {a : α} {b : β} {Q : β → Hp → Prop} (p : Post g rel ρ (.ok a h) Q E) (c : Cs g ρ h H) (r : rel ρ a b) : Q b H := p ρ b H (Wd.refl ρ) c r
/-- a new object is handed back -/
theorem Post.made {o : O} {u : HO} {Q : V → Hp → Prop} {p : Addr} (q : Post g (Rl g) ρ (.ok (.loc h.length) (h ++ [o])) Q E) (c : Cs g ρ h H) (hp : H p = none) (m : Om g (ρ.snoc p) (upd H p u) p o) : Q (.ref p) (upd H p u) :=
  q (ρ.snoc p) (.ref p) _ (pre_snoc ρ p) (c.new hp m) ⟨p, new_get ρ p c.len, rfl⟩
/-- a new frozen object is handed back -/
theorem Post.madeF {r : U} {u : HO} {Q : V → Hp → Prop} {p : Addr} (q : Post g (Rl g) ρ (.ok r h) Q E) (c : Cs g ρ h H) (hp : H p = none) (hu : ∀ o xs, u ≠ .frz o (.lst xs)) (m : Wd.Le ρ (ρ.frz p u) → upd ρ.fz p u p = some u → Rl g (ρ.frz p u) r (.ref p)) : Q (.ref p) (upd H p u) :=
  q (ρ.frz p u) (.ref p) _ (c.frz_le hp) (c.newF hp hu) (m (c.frz_le hp) upd_same)
end

/-! ### the judgements, weakened to mirrors -/
theorem PE.im {X : Cx} {e : Expr} {t t' : TE} (h : PE X e t) (i : ∀ σ H Q, t' σ H Q → t σ H Q) : PE X e t' := ⟨fun pins s σ H Q I q => h.run pins s σ H Q I (i σ H Q q)⟩
theorem PT.im {X : Cx} {e : Expr} {t t' : TT} (h : PT X e t) (i : ∀ σ H Q, t' σ H Q → t σ H Q) : PT X e t' := ⟨fun pins s σ H Q I q => h.run pins s σ H Q I (i σ H Q q)⟩
theorem PW.im {X : Cx} {e : Expr} {t t' : TT} (h : PW X e t) (i : ∀ σ H Q, t' σ H Q → t σ H Q) : PW X e t' := ⟨fun wh pins s σ H Q I q => h.run wh pins s σ H Q I (i σ H Q q)⟩
theorem PA.im {X : Cx} {e : List Expr} {t t' : TA} (h : PA X e t) (i : ∀ σ H Q, t' σ H Q → t σ H Q) : PA X e t' := ⟨fun po pins s σ H Q I q => h.run po pins s σ H Q I (i σ H Q q)⟩
theorem PS.im {X : Cx} {e : Stmt} {t t' : TS} (h : PS X e t) (i : ∀ D σ H, t' D σ H → t D σ H) : PS X e t' := ⟨fun pins s σ H D I q => h.run pins s σ H D I (i D σ H q)⟩
theorem PSs.im {X : Cx} {e : List Stmt} {t t' : TS} (h : PSs X e t) (i : ∀ D σ H, t' D σ H → t D σ H) : PSs X e t' := ⟨fun pins s σ H D I q => h.run pins s σ H D I (i D σ H q)⟩
end Vm

set_option Elab.async false
set_option linter.all false
set_option maxRecDepth 100000
set_option maxHeartbeats 4100000
namespace Vm
open L2 PyProof.Rows PySem PySem.Spec

/-! ### expressions -/
def mV (i : Nat) : Me := fun s h => match s[i]? with
  | some (some u) => .ok u h
  | _ => .stuck
def mC (u : U) : Me := fun _ h => .ok u h
abbrev F2 := U → U → Mh → R U
def m2 (f : F2) (a b : Me) : Me := fun s h => (a s h).bind fun x h1 => (b s h1).bind fun y h2 => f x y h2
def m1 (f : U → Mh → R U) (a : Me) : Me := fun s h => (a s h).bind fun x h1 => f x h1
abbrev Ml := Sl → Mh → R (List U)
def lN : Ml := fun _ h => .ok [] h
def lC (a : Me) (r : Ml) : Ml := fun s h => (a s h).bind fun x h1 => (r s h1).bind fun xs h2 => .ok (x :: xs) h2
def newO (o : O) : Mh → R U := fun h => .ok (.loc h.length) (h ++ [o])
def mT (a : Ml) : Me := fun s h => (a s h).bind fun xs h1 => if xs.length ≤ 100000 then newO (.tup xs) h1 else .stuck
def mL (a : Ml) : Me := fun s h => (a s h).bind fun xs h1 => if xs.length ≤ 100000 then newO (.lst xs) h1 else .stuck
def mCall (d : List U → Mh → R U) (a : Ml) : Me := fun s h => (a s h).bind fun xs h1 => d xs h1
abbrev Mb := Sl → Mh → R Bool
def asB : U → Mh → R Bool := fun u h => match u with
  | .bl b => .ok b h
  | _ => .stuck
def bV (a : Me) : Mb := fun s h => (a s h).bind asB
def bAnd (a b : Mb) : Mb := fun s h => (a s h).bind fun x h1 => match x with
  | true => b s h1
  | false => .ok false h1
def bOr (a b : Mb) : Mb := fun s h => (a s h).bind fun x h1 => match x with
  | true => .ok true h1
  | false => b s h1
def bNot (a : Mb) : Mb := fun s h => (a s h).bind fun x h1 => .ok (!x) h1
def mIf (c : Mb) (a b : Me) : Me := fun s h => (c s h).bind fun x h1 => match x with
  | true => a s h1
  | false => b s h1
def mAndV (a b : Me) : Me := fun s h => (a s h).bind fun x h1 => match x with
  | .bl true => b s h1
  | .bl false => .ok (.bl false) h1
  | _ => .stuck
def mOrV (a b : Me) : Me := fun s h => (a s h).bind fun x h1 => match x with
  | .bl true => .ok (.bl true) h1
  | .bl false => b s h1
  | _ => .stuck
def mNotV (a : Me) : Me := fun s h => (a s h).bind fun x h1 => match x with
  | .bl b => .ok (.bl (!b)) h1
  | _ => .stuck

/-! ### soundness of operations by values -/
def S2 (g : Gc) (f : F2) (r : R2) : Prop := ∀ E ρ x y vx vy h H Q, Rl g ρ x vx → Rl g ρ y vy → Cs g ρ h H → Post g (Rl g) ρ (f x y h) Q E → r vx vy H Q
def S1 (g : Gc) (f : U → Mh → R U) (r : V → Hp → VK → Prop) : Prop := ∀ E ρ x vx h H Q, Rl g ρ x vx → Cs g ρ h H → Post g (Rl g) ρ (f x h) Q E → r vx H Q
def SL (g : Gc) (f : List U → Mh → R U) (r : List V → Hp → VK → Prop) : Prop := ∀ E ρ xs vs h H Q, Rls g ρ xs vs → Cs g ρ h H → Post g (Rl g) ρ (f xs h) Q E → r vs H Q

section
variable {X : Cx} {g : Gc} {E : WX} {a b c e : Expr} {A B Cc : Me} {pos : Pos}

theorem e_var {i : Nat} {x : Str} (hN : X.N[i]? = some x := by rfl) (hv : Vis X.env.scope x := by first | exact Or.inl rfl | exact Or.inr (Or.inl rfl) | exact Or.inr (Or.inr rfl)) (hd : (x == ("__debug__" : Str)) = false := by decide)
    (hcd : (x == ("__classdict__" : Str)) = false := by decide) : PE X (.Name x pos) (T g E (mV i)) := by
  refine PE.im (pe_var hN hv hd hcd) fun σ H Q ⟨ρ, s, h, hs, cs, p⟩ => ?_
  unfold mV at p
  cases es : s[i]? with
  | none => rw [es] at p; exact p.elim
  | some o =>
    rw [es] at p
    cases o with
    | none => exact p.elim
    | some u =>
      obtain ⟨ov, e1, r⟩ := Paired.get hs es
      cases ov with
      | none => exact r.elim
      | some v => exact ⟨v, e1, Post.here (rel := Rl g) p cs r⟩
theorem e_con {u : U} {v : V} (h : PE X e (tC v)) (r : ∀ ρ, Rl g ρ u v) : PE X e (T g E (mC u)) :=
  PE.im h fun _ _ _ ⟨ρ, _, _, _, cs, p⟩ => Post.here (rel := Rl g) p cs (r ρ)
theorem e_int {i j} : PE X (.Constant (.int i) j pos) (T g E (mC (.int i))) := e_con pe_int fun _ => rfl
theorem e_bl {i j} : PE X (.Constant (.bool i) j pos) (T g E (mC (.bl i))) := e_con pe_bl fun _ => rfl
theorem e_non {j} : PE X (.Constant .none j pos) (T g E (mC .non)) := e_con pe_non fun _ => rfl
theorem e_str {x y j} (hy : x = y := by rfl) : PE X (.Constant (.str x) j pos) (T g E (mC (.str y))) := by
  subst hy
  exact e_con pe_str fun _ => rfl
theorem e_glob {x : Str} {u : U} {v : V} {w : Value} (hg : Gl X x) (hm : X.mg x = some w) (r : RelV v w) (ru : ∀ ρ, Rl g ρ u v) (hd : (x == ("__debug__" : Str)) = false := by decide) : PE X (.Name x pos) (T g E (mC u)) := e_con (pe_glob hg hm r hd) ru


/-- two parts, then by values -/
theorem at2 {f : F2} {r : R2} (hs : S2 g f r) {σ : L2.St} {H : Hp} {Q : VK} (q : At g (Rl g) (m2 f A B) (WE E σ) σ H Q) : T g E A σ H fun x H1 => T g E B σ H1 fun y H2 => r x y H2 Q := by
  refine At.seq (rel := Rl g) q fun ρ1 x s h1 v H1 hs1 c1 r1 p1 => ?_
  exact ⟨ρ1, s, h1, hs1, c1, (Post.cut (rel := Rl g) p1).imp fun w H2 ⟨ρ2, y, h2, e2, c2, r2, p2⟩ => hs _ ρ2 x y v w h2 H2 Q (Rl.mono e2 r1) r2 c2 p2⟩
theorem at1 {f : U → Mh → R U} {r : V → Hp → VK → Prop} (hs : S1 g f r) {σ : L2.St} {H : Hp} {Q : VK} (q : At g (Rl g) (m1 f A) (WE E σ) σ H Q) : T g E A σ H fun x H1 => r x H1 Q :=
  At.seq (rel := Rl g) q fun ρ1 x s h1 v H1 hs1 c1 r1 p1 => hs _ ρ1 x v h1 H1 Q r1 c1 p1
theorem atL {f : List U → Mh → R U} {r : List V → Hp → VK → Prop} (hs : SL g f r) {L : Ml} {σ : L2.St} {H : Hp} {Q : VK} (q : At g (Rl g) (fun s h => (L s h).bind f) (WE E σ) σ H Q) : TL g E L σ H fun xs H1 => r xs H1 Q :=
  At.seq (rel := Rls g) (k := fun xs _ h1 => f xs h1) q fun ρ1 x s h1 v H1 hs1 c1 r1 p1 => hs _ ρ1 x v h1 H1 Q r1 c1 p1

theorem e_op {op : Operator} {f : F2} {r : R2} (ho : OpR X (binaryOp op) r) (hs : S2 g f r) (ha : PE X a (T g E A)) (hb : PE X b (T g E B)) : PE X (.BinOp a op b pos) (T g E (m2 f A B)) :=
  PE.im (pe_op ho ha hb) fun _ _ _ q => at2 hs q
theorem e_un {op : UnaryOp} {f : U → Mh → R U} {r : V → Hp → VK → Prop} (ho : UnR X (unaryOp op) r) (hs : S1 g f r) (ha : PE X a (T g E A)) : PE X (.UnaryOp op a pos) (T g E (m1 f A)) :=
  PE.im (pe_un ho ha) fun _ _ _ q => at1 hs q
theorem e_cmp {op : CmpOp} {f : F2} {r : R2} (ho : OpR X (compareOp op) r) (hs : S2 g f r) (ha : PE X a (T g E A)) (hb : PE X b (T g E B)) (hm : behindInMarks op b = false := by rfl) : PE X (.Compare a [op] [b] pos) (T g E (m2 f A B)) :=
  PE.im (pe_cmpR ho ha hb hm) fun _ _ _ q => at2 hs q
theorem e_ix {f : F2} {r : R2} (ho : IxR X r) (hs : S2 g f r) (ha : PE X a (T g E A)) (hb : PE X b (T g E B)) (hp : PlainIx b := by exact fun _ _ => rfl) : PE X (.Subscript a b pos) (T g E (m2 f A B)) :=
  PE.im (pe_ix ho ha hb hp) fun _ _ _ q => at2 hs q
theorem e_not (ha : PE X a (T g E A)) : PE X (.UnaryOp .Not a pos) (T g E (mNotV A)) := by
  refine PE.im (pe_not ha) fun σ H Q q => At.seq (rel := Rl g) q fun ρ1 x s h1 v H1 hs1 c1 r1 p1 => ?_
  cases x with
  | bl b => exact ⟨b, r1, Post.here (rel := Rl g) p1 c1 rfl⟩
  | _ => exact p1.elim
theorem e_one {op} (h : PE X a (T g E A)) : PE X (.BoolOp op [a] pos) (T g E A) := pe_one h
theorem e_and {rest : List Expr} (ha : PE X a (T g E A)) (hb : PE X (.BoolOp .And (b :: rest) pos) (T g E B)) : PE X (.BoolOp .And (a :: b :: rest) pos) (T g E (mAndV A B)) := by
  refine PE.im (pe_and ha hb) fun σ H Q q => At.seq (rel := Rl g) q fun ρ1 x s h1 v H1 hs1 c1 r1 p1 => ?_
  cases x with
  | bl k =>
    cases k with
    | true => exact ⟨true, r1, by rw [if_pos rfl]; exact ⟨ρ1, s, h1, hs1, c1, p1⟩⟩
    | false => exact ⟨false, r1, by rw [if_neg Bool.false_ne_true]; exact Post.here (rel := Rl g) p1 c1 rfl⟩
  | _ => exact p1.elim
theorem e_or {rest : List Expr} (ha : PE X a (T g E A)) (hb : PE X (.BoolOp .Or (b :: rest) pos) (T g E B)) : PE X (.BoolOp .Or (a :: b :: rest) pos) (T g E (mOrV A B)) := by
  refine PE.im (pe_or ha hb) fun σ H Q q => At.seq (rel := Rl g) q fun ρ1 x s h1 v H1 hs1 c1 r1 p1 => ?_
  cases x with
  | bl k =>
    cases k with
    | true => exact ⟨true, r1, by rw [if_pos rfl]; exact Post.here (rel := Rl g) p1 c1 rfl⟩
    | false => exact ⟨false, r1, by rw [if_neg Bool.false_ne_true]; exact ⟨ρ1, s, h1, hs1, c1, p1⟩⟩
  | _ => exact p1.elim
theorem e_if {t : Mb} (hc : PT X c (TB g E t)) (ha : PE X a (T g E A)) (hb : PE X b (T g E B)) : PE X (.IfExp c a b pos) (T g E (mIf t A B)) := by
  refine PE.im (pe_ifExp hc ha hb) fun σ H Q q => At.seq (rel := relB) q fun ρ1 x s h1 v H1 hs1 c1 r1 p1 => ?_
  cases r1
  cases x with
  | true => rw [if_pos rfl]; exact ⟨ρ1, s, h1, hs1, c1, p1⟩
  | false => rw [if_neg Bool.false_ne_true]; exact ⟨ρ1, s, h1, hs1, c1, p1⟩

/-! ### tests -/
variable {tA tB : Mb}
/-- an expression whose value is a bool -/
theorem t_val (h : PE X a (T g E A)) (he : ∀ whole, isTrue a X.env whole = (do let v ← whole; standAt a.pos; holding [v] (truthy v)) := by intro _; rfl) : PT X a (TB g E (bV A)) := by
  refine PT.im (pt_val h he) fun σ H Q q => At.seq (rel := Rl g) (k := fun x _ h1 => asB x h1) q fun ρ1 x s h1 v H1 hs1 c1 r1 p1 => ?_
  cases x with
  | bl k => exact ⟨k, r1, Post.here (rel := relB) p1 c1 rfl⟩
  | _ => exact p1.elim
theorem t_cmp {op : CmpOp} {f : F2} {r : R2} (ho : OpR X (compareOp op) r) (hs : S2 g f r) (ha : PE X a (T g E A)) (hb : PE X b (T g E B)) (hm : behindInMarks op b = false := by rfl) : PT X (.Compare a [op] [b] pos) (TB g E (bV (m2 f A B))) := by
  refine PT.im (pt_cmpR ho ha hb hm) fun σ H Q q => at2 hs ?_
  refine At.seq (rel := Rl g) (m := m2 f A B) (k := fun x _ h1 => asB x h1) q fun ρ1 x s h1 v H1 hs1 c1 r1 p1 => ?_
  cases x with
  | bl k => exact ⟨k, r1, Post.here (rel := relB) p1 c1 rfl⟩
  | _ => exact p1.elim
theorem t_not (h : PT X a (TB g E tA)) : PT X (.UnaryOp .Not a pos) (TB g E (bNot tA)) := by
  refine PT.im (pt_not h) fun σ H Q q => At.seq (rel := relB) q fun ρ1 x s h1 v H1 hs1 c1 r1 p1 => ?_
  cases r1
  exact Post.here (rel := relB) p1 c1 rfl
theorem w_and1 (h : PT X a (TB g E tA)) : PW X (.BoolOp .And [a] pos) (TB g E tA) := pw_and1 h
theorem w_or1 (h : PT X a (TB g E tA)) : PW X (.BoolOp .Or [a] pos) (TB g E tA) := pw_or1 h
theorem w_and {rest : List Expr} (ha : PT X a (TB g E tA)) (hb : PW X (.BoolOp .And (b :: rest) pos) (TB g E tB)) : PW X (.BoolOp .And (a :: b :: rest) pos) (TB g E (bAnd tA tB)) := by
  refine PW.im (pw_and ha hb) fun σ H Q q => At.seq (rel := relB) q fun ρ1 x s h1 v H1 hs1 c1 r1 p1 => ?_
  cases r1
  cases x with
  | true => rw [if_pos rfl]; exact ⟨ρ1, s, h1, hs1, c1, p1⟩
  | false => rw [if_neg Bool.false_ne_true]; exact Post.here (rel := relB) p1 c1 rfl
theorem w_or {rest : List Expr} (ha : PT X a (TB g E tA)) (hb : PW X (.BoolOp .Or (b :: rest) pos) (TB g E tB)) : PW X (.BoolOp .Or (a :: b :: rest) pos) (TB g E (bOr tA tB)) := by
  refine PW.im (pw_or ha hb) fun σ H Q q => At.seq (rel := relB) q fun ρ1 x s h1 v H1 hs1 c1 r1 p1 => ?_
  cases r1
  cases x with
  | true => rw [if_pos rfl]; exact Post.here (rel := relB) p1 c1 rfl
  | false => rw [if_neg Bool.false_ne_true]; exact ⟨ρ1, s, h1, hs1, c1, p1⟩

/-! ### exact tuples -/
def tTupX (t : TA) : TE := fun σ H Q => t σ H fun xs H1 => xs.length ≤ sizeLine ∧ ∀ p o, o.dict = none → H1 p = none → Q (.ref p) (upd H1 p (.frz o (.tup xs)))
theorem tup_laid {pins : List (Addr × Obj)} {s : Shared} {σ : L2.St} {H : Hp} {xs : List V} {us : List Value} (I : Inv X pins σ H s) (r : Vals xs us) (z : xs.length ≤ sizeLine) :
    Inv X pins σ (upd H s.heap.objs.size (.frz { cls := .type "tuple", data := .seq us.toArray } (.tup xs))) { s with heap := s.heap.push { cls := .type "tuple", data := .seq us.toArray } } :=
  I.laid (t' := s.toks) (fun b u e => Heap.get?_push_of_some _ e) (Nat.le_refl _) ⟨Heap.get?_push_size _ rfl, z, us, r, ⟨_, Heap.get?_push_size _ rfl, rfl, _, rfl⟩⟩
theorem pe_tupX {x1} {es : List Expr} {t : TA} (h : PA X es t) : PE X (.Tuple es x1 pos) (tTupX t) := by
  refine ⟨fun pins s σ H Q I hq => ?_⟩; refine wpAny_Tuple_spliced (thn (h.run pos pins s σ H _ I hq) fun us s1 ⟨xs, H1, I1, r, z, q⟩ => ⟨by rw [← r.length]; exact z, ?_⟩)
  exact ⟨.ref s1.heap.objs.size, _, tup_laid I1 r z, rfl, q _ _ rfl (I1.hok.fresh (Nat.le_refl _))⟩

/-! ### argument lists, displays, calls -/
variable {es : List Expr} {L L2' : Ml}
theorem l_nil : PA X [] (TL g E lN) := PA.im pa_nil fun _ _ _ ⟨ρ, _, _, _, cs, p⟩ => Post.here (rel := Rls g) p cs .nil
theorem l_cons (ha : PE X e (T g E A)) (hr : PA X es (TL g E L)) (hs : starEach (e :: es) X.env = (false, eval e X.env) :: starEach es X.env := by rfl) : PA X (e :: es) (TL g E (lC A L)) := by
  refine PA.im (pa_cons ha hr hs) fun σ H Q q => At.seq (rel := Rl g) q fun ρ1 x s h1 v H1 hs1 c1 r1 p1 => ?_
  refine ⟨ρ1, s, h1, hs1, c1, (Post.cut (rel := Rls g) p1).imp fun vs H2 ⟨ρ2, xs, h2, e2, c2, r2, p2⟩ => ?_⟩
  exact Post.here (rel := Rls g) p2 c2 (.cons (Rl.mono e2 r1) r2)
theorem big_line {n : Nat} (h : n ≤ 100000) : n ≤ sizeLine := by
  rw [sizeLine_eq]
  omega
theorem e_tup {x1} (h : PA X es (TL g E L)) : PE X (.Tuple es x1 pos) (T g E (mT L)) := by
  refine PE.im (pe_tupX h) fun σ H Q q => At.seq (rel := Rls g) q fun ρ1 xs s h1 vs H1 hs1 c1 r1 p1 => ?_
  by_cases hl : xs.length ≤ 100000
  · rw [if_pos hl] at p1
    refine ⟨by rw [← Paired.length r1]; exact big_line hl, fun p o ho hp => Post.made p1 c1 hp ⟨vs, o, Rls.mono (pre_snoc _ _) r1, ho, upd_same⟩⟩
  · rw [if_neg hl] at p1
    exact p1.elim
theorem e_lst (h : PA X es (TL g E L)) : PE X (.List es pos) (T g E (mL L)) := by
  refine PE.im (pe_lst h) fun σ H Q q => At.seq (rel := Rls g) q fun ρ1 xs s h1 vs H1 hs1 c1 r1 p1 => ?_
  by_cases hl : xs.length ≤ 100000
  · rw [if_pos hl] at p1
    refine ⟨by rw [← Paired.length r1]; exact big_line hl, fun p hp => Post.made p1 c1 hp ⟨vs, Rls.mono (pre_snoc _ _) r1, upd_same⟩⟩
  · rw [if_neg hl] at p1
    exact p1.elim
/-- a builtin's call -/
def mBt (f : List U → Mh → R U) (a : Ml) : Me := fun s h => (a s h).bind f
theorem e_callB {x : Str} {p : Pos} {id : String} {f : List U → Mh → R U} {r : List V → Hp → VK → Prop} (hc : CallR X (.builtin id) r) (hs : SL g f r) (hg : Gl X x) (hm : X.mg x = none) (hv : bootBuiltins x = some (.builtin id)) (ha : PA X (e :: es) (TL g E L)) (hn : x ≠ "__name__" := by decide) (hdb : (x == ("__debug__" : Str)) = false := by decide)
    (he : starEach (e :: es) X.env = (false, eval e X.env) :: starEach es X.env := by rfl) (hpl : (backTo pos (starEach es X.env)).any (·.1) = false := by rfl) : PE X (.Call (.Name x p) (e :: es) [] pos) (T g E (mBt f L)) :=
  PE.im (pe_callB hc hg hm hv ha hn hdb he hpl) fun _ _ _ q => atL hs q
theorem e_callTy {x : Str} {p : Pos} {id : String} {f : List U → Mh → R U} {r : List V → Hp → VK → Prop} (hc : CallR X (.type id) r) (hs : SL g f r) (hg : Gl X x) (hm : X.mg x = none) (hv : bootBuiltins x = some (.type id)) (ha : PA X (e :: es) (TL g E L)) (hn : x ≠ "__name__" := by decide) (hdb : (x == ("__debug__" : Str)) = false := by decide)
    (he : starEach (e :: es) X.env = (false, eval e X.env) :: starEach es X.env := by rfl) (hpl : (backTo pos (starEach es X.env)).any (·.1) = false := by rfl) : PE X (.Call (.Name x p) (e :: es) [] pos) (T g E (mBt f L)) :=
  PE.im (pe_callTy hc hg hm hv ha hn hdb he hpl) fun _ _ _ q => atL hs q
/-- what a def promises: its mirror's answer -/
def spM (g : Gc) (n : Nat) (d : List U → Mh → R U) : Sp := fun vs H Q E => vs.length = n ∧ ∃ ρ xs h, Rls g ρ xs vs ∧ Cs g ρ h H ∧ Post g (Rl g) ρ (d xs h) Q E
theorem e_call {k : Nat} {f : Addr} {fd : FuncData} {ps : List Str} {n : Nat} {d : List U → Mh → R U} {x : Str} {p : Pos} (F : FnOk X.prog X.w X.K X.mg X.base (L2.CX X.prog X.w) k f fd ps (spM g n d)) (hr : Room k X.A) (hg : Gl X x) (hm : X.mg x = some (.ref f)) (hk : PySem.W.keepIn X.K (.ref f) = true) (hb : Binds X.K fd ps []) (tk : Takes X E)
    (ha : PA X (e :: es) (TL g E L)) (hl : ∀ s h xs h', L s h = .ok xs h' → xs.length = n) (hdb : (x == ("__debug__" : Str)) = false := by decide) (he : starEach (e :: es) X.env = (false, eval e X.env) :: starEach es X.env := by rfl) (hpl : (backTo pos (starEach es X.env)).any (·.1) = false := by rfl) :
    PE X (.Call (.Name x p) (e :: es) [] pos) (T g E (mCall d L)) := by
  refine PE.im (pe_callS F hr hg hm hk hb (fun σ => passAt tk σ) ha hdb he hpl) fun σ H Q q => ?_
  obtain ⟨ρ, s, h, hs, cs, p⟩ := q
  refine ⟨ρ, s, h, hs, cs, ?_⟩
  cases el : L s h with
  | ok xs h1 =>
    unfold mCall at p
    rw [el] at p
    intro ρ1 vs H1 e1 c1 r1
    refine ⟨by rw [← Paired.length r1]; exact hl _ _ _ _ el, ρ1, xs, h1, r1, c1, Post.mono e1 p⟩
  | ex c f h1 =>
    unfold mCall at p
    rw [el] at p
    exact p
  | stuck =>
    unfold mCall at p
    rw [el] at p
    exact p.elim
theorem lN_len : ∀ (s : Sl) (h : Mh) (xs : List U) (h' : Mh), lN s h = .ok xs h' → xs.length = 0 := fun _ _ _ _ e => by
  unfold lN at e
  cases e
  rfl
theorem lC_len {n : Nat} {L : Ml} {A : Me} (hl : ∀ (s : Sl) (h : Mh) (xs : List U) (h' : Mh), L s h = .ok xs h' → xs.length = n) : ∀ (s : Sl) (h : Mh) (xs : List U) (h' : Mh), lC A L s h = .ok xs h' → xs.length = n + 1 := fun s h xs h' e => by
  unfold lC at e
  cases ea : A s h with
  | ok x h1 =>
    rw [ea] at e
    simp only [R.bind] at e
    cases el : L s h1 with
    | ok ys h2 =>
      rw [el] at e
      simp only [R.ok.injEq] at e
      rw [← e.1, List.length_cons, hl _ _ _ _ el]
    | ex c f h2 => rw [el] at e; cases e
    | stuck => rw [el] at e; cases e
  | ex c f h1 => rw [ea] at e; cases e
  | stuck => rw [ea] at e; cases e
end
end Vm

set_option Elab.async false
set_option linter.all false
set_option maxRecDepth 100000
set_option maxHeartbeats 4100000
namespace Vm
open L2 PyProof.Rows PySem PySem.Spec

/-! ### statements -/
inductive RS where
  | nx (s : Sl) (h : Mh) | rt (u : U) (h : Mh) | bk (s : Sl) (h : Mh) | ct (s : Sl) (h : Mh) | ex (c : Nat) (f : List (Str × U)) (s : Sl) (h : Mh) | stuck
abbrev Ms := Sl → Mh → RS
def R.bindS {α : Type} (r : R α) (s : Sl) (f : α → Mh → RS) : RS := match r with
  | .ok a h => f a h
  | .ex c g h => .ex c g s h
  | .stuck => .stuck
def XpS (g : Gc) (ρ : Wd) (c : Nat) (f : List (Str × U)) (s : Sl) (h : Mh) (W : WX) : Prop :=
  ∀ ρ' σ H, Wd.Le ρ ρ' → Cs g ρ' h H → Rsl g ρ' s σ →
    (f = [] → W (.ref (g.cl c)) none σ H) ∧ ∀ d gs, f ≠ [] → H d = none → Rf g ρ' f gs → W (.ref (g.cl c)) (some d) σ (upd H d (.xd gs))
def PostS (g : Gc) (W : WX) (ρ : Wd) (r : RS) (D : Ends) : Prop := match r with
  | .nx s h => ∀ ρ' σ H, Wd.Le ρ ρ' → Cs g ρ' h H → Rsl g ρ' s σ → D.nx σ H
  | .rt u h => ∀ ρ' v H, Wd.Le ρ ρ' → Cs g ρ' h H → Rl g ρ' u v → D.rt v H
  | .bk s h => ∀ ρ' σ H, Wd.Le ρ ρ' → Cs g ρ' h H → Rsl g ρ' s σ → D.bk σ H
  | .ct s h => ∀ ρ' σ H, Wd.Le ρ ρ' → Cs g ρ' h H → Rsl g ρ' s σ → D.ct σ H
  | .ex c f s h => XpS g ρ c f s h W
  | .stuck => False
def AtS (g : Gc) (W : WX) (m : Ms) (D : Ends) (σ : L2.St) (H : Hp) : Prop := ∃ ρ s h, Rsl g ρ s σ ∧ Cs g ρ h H ∧ PostS g W ρ (m s h) D
def TSm (g : Gc) (W : WX) (m : Ms) : TS := fun D σ H => AtS g W m D σ H

def sPass : Ms := fun s h => .nx s h
def sSeq (a b : Ms) : Ms := fun s h => match a s h with
  | .nx s1 h1 => b s1 h1
  | r => r
def sE (a : Me) : Ms := fun s h => (a s h).bindS s fun _ h1 => .nx s h1
def sRet (a : Me) : Ms := fun s h => (a s h).bindS s fun u h1 => .rt u h1
def sRetN : Ms := fun _ h => .rt .non h
def sBreak : Ms := fun s h => .bk s h
def sCont : Ms := fun s h => .ct s h
def sIf (c : Mb) (a b : Ms) : Ms := fun s h => (c s h).bindS s fun k h1 => match k with
  | true => a s h1
  | false => b s h1
/-- targets -/
abbrev Gt := U → Sl → Mh → Option Sl
abbrev Gts := List U → Sl → Mh → Option Sl
def gtN (i : Nat) : Gt := fun u s _ => some (s.set i (some u))
def gtNil : Gts := fun us s _ => match us with
  | [] => some s
  | _ => none
def gtCons (a : Gt) (b : Gts) : Gts := fun us s h => match us with
  | u :: r => (a u s h).bind fun s1 => b r s1 h
  | [] => none
def gtT (n : Nat) (b : Gts) : Gt := fun u s h => match u with
  | .loc k => match h[k]? with
    | some (.tup xs) => if xs.length = n then b xs s h else none
    | some (.tpl xs) => if xs.length = n then b xs s h else none
    | _ => none
  | _ => none
def sAsg (a : Me) (t : Gt) : Ms := fun s h => (a s h).bindS s fun u h1 => match t u s h1 with
  | some s1 => .nx s1 h1
  | none => .stuck
/-- what is walked: turn by turn -/
abbrev Itm := Nat → Mh → R (Option U)
abbrev Mi := Sl → Mh → R Itm
def ItP (g : Gc) (ρ : Wd) (J : It) (i : Nat) (h : Mh) (H : Hp) (r : R (Option U)) : Prop := match r with
  | .ok none h' => h' = h ∧ J.stop i H
  | .ok (some x) h' => J.go i H ∧ ∀ v H', J.yld i H v H' → ∃ ρ', Wd.Le ρ ρ' ∧ Cs g ρ' h' H' ∧ Rl g ρ' x v
  | _ => True
def ItOk (g : Gc) (ρ0 : Wd) (it : Itm) (J : It) : Prop := ∀ ρ i h H, Wd.Lx ρ0 ρ → Cs g ρ h H → ItP g ρ J i h H (it i h)
def loopS (it : Itm) (t : Gt) (b : Ms) : Nat → Nat → Sl → Mh → RS
  | 0, _, _, _ => .stuck
  | n + 1, i, s, h => match it i h with
    | .ok none h1 => .nx s h1
    | .ok (some x) h1 => match t x s h1 with
      | some s1 => match b s1 h1 with
        | .nx s2 h2 => loopS it t b n (i + 1) s2 h2
        | .ct s2 h2 => loopS it t b n (i + 1) s2 h2
        | .bk s2 h2 => .nx s2 h2
        | r => r
      | none => .stuck
    | _ => .stuck
def lim : Nat := 100000
def sFor (mi : Mi) (t : Gt) (b : Ms) : Ms := fun s h => (mi s h).bindS s fun it h1 => loopS it t b lim 0 s h1

section
variable {g : Gc} {ρ ρ' : Wd} {h h' : Mh} {H H' : Hp} {W : WX} {α β : Type} {rel : Wd → α → β → Prop} {D D' : Ends}
theorem XpS.mono {c : Nat} {f : List (Str × U)} {s : Sl} (e : Wd.Le ρ ρ') (x : XpS g ρ c f s h W) : XpS g ρ' c f s h W := fun ρ2 σ H2 e2 c2 r2 => x ρ2 σ H2 (e.trans e2) c2 r2
theorem PostS.mono {r : RS} (e : Wd.Le ρ ρ') (p : PostS g W ρ r D) : PostS g W ρ' r D := by
  cases r with
  | nx s h => exact fun ρ2 b H2 e2 c2 r2 => p ρ2 b H2 (e.trans e2) c2 r2
  | rt s h => exact fun ρ2 b H2 e2 c2 r2 => p ρ2 b H2 (e.trans e2) c2 r2
  | bk s h => exact fun ρ2 b H2 e2 c2 r2 => p ρ2 b H2 (e.trans e2) c2 r2
  | ct s h => exact fun ρ2 b H2 e2 c2 r2 => p ρ2 b H2 (e.trans e2) c2 r2
  | ex c f s h => exact XpS.mono e p
  | stuck => exact p
/-- an expression first -/
theorem AtS.seqE {m : Sl → Mh → R α} {k : α → Ms} {σ : L2.St} (a : AtS g W (fun s h => (m s h).bindS s fun x h1 => k x s h1) D σ H)
    {Q1 : β → Hp → Prop} (hq : ∀ ρ1 x s h1 b H1, Rsl g ρ1 s σ → Cs g ρ1 h1 H1 → rel ρ1 x b → PostS g W ρ1 (k x s h1) D → Q1 b H1) : At g rel m (WE W σ) σ H Q1 := by
  obtain ⟨ρ, s, h, hs, c, p⟩ := a
  refine ⟨ρ, s, h, hs, c, ?_⟩
  dsimp only at p
  cases em : m s h with
  | ok x h1 =>
    rw [em] at p
    exact fun ρ1 b H1 e1 c1 r1 => hq ρ1 x s h1 b H1 (Rsl.mono e1 hs) c1 r1 (PostS.mono e1 p)
  | ex c f h1 =>
    rw [em] at p
    exact fun ρ1 H1 e1 c1 => p ρ1 σ H1 e1 c1 (Rsl.mono e1 hs)
  | stuck =>
    rw [em] at p
    exact p.elim
theorem PostS.seq {r : RS} {b : Ms} (p : PostS g W ρ (match r with | .nx s1 h1 => b s1 h1 | r => r) D) : PostS g W ρ r { D with nx := TSm g W b D } := by
  cases r with
  | nx s h => exact fun ρ2 σ H2 e2 c2 r2 => ⟨ρ2, s, h, r2, c2, PostS.mono e2 p⟩
  | _ => exact p
end

section
variable {X : Cx} {g : Gc} {W : WX} {a b c e : Expr} {A B Cc : Me} {pos : Pos} {st : Stmt} {sts : List Stmt} {M N : Ms}
theorem s_nil : PSs X [] (TSm g W sPass) := PSs.im pss_nil fun D σ H ⟨ρ, s, h, hs, cs, p⟩ => p ρ σ H (Wd.refl ρ) cs hs
theorem s_cons (h1 : PS X st (TSm g W M)) (h2 : PSs X sts (TSm g W N)) : PSs X (st :: sts) (TSm g W (sSeq M N)) :=
  PSs.im (pss_cons h1 h2) fun D σ H ⟨ρ, s, h, hs, cs, p⟩ => ⟨ρ, s, h, hs, cs, PostS.seq p⟩
theorem s_one (h1 : PS X st (TSm g W M)) : PSs X [st] (TSm g W M) := pss_one h1
theorem s_pass : PS X (.Pass pos) (TSm g W sPass) := PS.im ps_pass fun D σ H ⟨ρ, s, h, hs, cs, p⟩ => p ρ σ H (Wd.refl ρ) cs hs
theorem s_doc {x j pos pos'} : PS X (.Expr (.Constant (.str x) j pos) pos') (TSm g W sPass) := PS.im ps_doc fun D σ H ⟨ρ, s, h, hs, cs, p⟩ => p ρ σ H (Wd.refl ρ) cs hs
theorem s_break : PS X (.Break pos) (TSm g W sBreak) := PS.im ps_break fun D σ H ⟨ρ, s, h, hs, cs, p⟩ => p ρ σ H (Wd.refl ρ) cs hs
theorem s_cont : PS X (.Continue pos) (TSm g W sCont) := PS.im ps_continue fun D σ H ⟨ρ, s, h, hs, cs, p⟩ => p ρ σ H (Wd.refl ρ) cs hs
theorem s_expr (he : PE X e (T g W A)) (hs : swapsWith e none pos.line X.env = pure false := by rfl) : PS X (.Expr e pos) (TSm g W (sE A)) :=
  PS.im (ps_expr he hs) fun D σ H q => AtS.seqE (rel := Rl g) (k := fun _ s h1 => .nx s h1) q fun ρ1 x s h1 b H1 hs c1 r1 p => p ρ1 σ H1 (Wd.refl _) c1 hs
theorem s_ret (he : PE X e (T g W A)) : PS X (.Return (some e) pos) (TSm g W (sRet A)) :=
  PS.im (ps_ret he) fun D σ H q => AtS.seqE (rel := Rl g) (k := fun u _ h1 => .rt u h1) q fun ρ1 x s h1 b H1 hs c1 r1 p => p ρ1 b H1 (Wd.refl _) c1 r1
theorem s_retN : PS X (.Return none pos) (TSm g W sRetN) := PS.im ps_retN fun D σ H ⟨ρ, s, h, hs, cs, p⟩ => p ρ .non H (Wd.refl ρ) cs rfl
theorem s_if {x y : List Stmt} {t : Mb} (hc : PT X c (TB g W t)) (ha : PSs X x (TSm g W M)) (hb : PSs X y (TSm g W N)) : PS X (.If c x y pos) (TSm g W (sIf t M N)) := by
  refine PS.im (ps_if hc ha hb) fun D σ H q => AtS.seqE (rel := relB) (m := t) (k := fun k s h1 => match k with | true => M s h1 | false => N s h1) q fun ρ1 x s h1 b H1 hs c1 r1 p => ?_
  cases r1
  cases x with
  | true => rw [if_pos rfl]; exact ⟨ρ1, s, h1, hs, c1, p⟩
  | false => rw [if_neg Bool.false_ne_true]; exact ⟨ρ1, s, h1, hs, c1, p⟩

/-! ### targets -/
def TGm (g : Gc) (is : List Nat) (t : Gt) : TG := fun v σ H Q => ∃ ρ u s h, Rl g ρ u v ∧ Rsl g ρ s σ ∧ Cs g ρ h H ∧ match t u s h with
  | some s1 => ∀ σ1, Rsl g ρ s1 σ1 → (∀ vs, (∀ i ∈ is, i ∈ vs) → wipe σ1 vs = wipe σ vs) → Q σ1 H
  | none => False
def TGsm (g : Gc) (is : List Nat) (t : Gts) : TGs := fun vs σ H Q => ∃ ρ us s h, Rls g ρ us vs ∧ Rsl g ρ s σ ∧ Cs g ρ h H ∧ match t us s h with
  | some s1 => ∀ σ1, Rsl g ρ s1 σ1 → (∀ vs, (∀ i ∈ is, i ∈ vs) → wipe σ1 vs = wipe σ vs) → Q σ1 H
  | none => False
theorem PG.im {tg : Expr} {t t' : TG} (h : PG X tg t) (i : ∀ v σ H Q, t' v σ H Q → t v σ H Q) : PG X tg t' := ⟨fun pins s σ H v u Q I r q => h.run pins s σ H v u Q I r (i v σ H Q q)⟩
theorem PGs.im {tg : List Expr} {t t' : TGs} (h : PGs X tg t) (i : ∀ v σ H Q, t' v σ H Q → t v σ H Q) : PGs X tg t' := ⟨fun pins s σ H v u Q I r q => h.run pins s σ H v u Q I r (i v σ H Q q)⟩
theorem wipe_set {x : Option V} {i : Nat} : ∀ {vs : List Nat} {σ : L2.St}, i ∈ vs → wipe (σ.set i x) vs = wipe σ vs
  | v :: vs, σ, hm => by
    unfold wipe
    by_cases hv : i ∈ vs
    · rw [wipe_set hv]
    · have e : i = v := by
        rcases List.mem_cons.mp hm with (e | e)
        · exact e
        · exact absurd e hv
      subst e
      have gen : ∀ (us : List Nat) (σ : L2.St), (wipe (σ.set i x) us).set i none = (wipe σ us).set i none := fun us => by
        induction us with
        | nil => intro σ; unfold wipe; rw [List.set_set]
        | cons u us ih =>
          intro σ
          unfold wipe
          by_cases hu : u = i
          · subst hu; rw [List.set_set, List.set_set]; exact ih σ
          · rw [List.set_comm _ _ hu, List.set_comm _ _ hu, ih σ]
      exact gen vs σ
theorem g_name {i : Nat} {x : Str} (hN : X.N.Nodup) (hi : X.N[i]? = some x := by rfl) (hx : Loc X.env.scope x := by first | exact Or.inl rfl | exact Or.inr rfl) (hf : X.fn x = true ∨ X.env.scope.names.lookup x = some .local := by first | exact .inl rfl | exact .inr rfl) :
    PG X (.Name x pos) (TGm g [i] (gtN i)) :=
  PG.im (pg_name hN hi hx hf) fun v σ H Q ⟨ρ, u, s, h, r, hs, cs, p⟩ => p _ (Paired.set (F := Rol g ρ) (x := some u) (y := some v) r i hs) fun vs hv => wipe_set (hv i (by simp))
theorem gs_nil : PGs X [] (TGsm g [] gtNil) := by
  refine PGs.im pgs_nil fun v σ H Q ⟨ρ, us, s, h, r, hs, cs, p⟩ => ?_
  cases r with
  | nil => exact ⟨rfl, p σ hs fun _ _ => rfl⟩
  | cons _ _ => exact p.elim
theorem TGsm.cut {is js : List Nat} {t : Gt} {ts : Gts} {v : List V} {σ : L2.St} {H : Hp} {Q : L2.St → Hp → Prop} (q : TGsm g (is ++ js) (gtCons t ts) v σ H Q) : gCons (TGm g is t) (TGsm g js ts) v σ H Q := by
  obtain ⟨ρ, us, s, h, r, hs, cs, p⟩ := q
  match us, v, r, p with
  | [], [], .nil, p => exact p.elim
  | u :: us, w :: ws, .cons r1 r2, p =>
    refine ⟨w, ws, rfl, ρ, u, s, h, r1, hs, cs, ?_⟩
    cases et : t u s h with
    | none =>
      simp only [gtCons, et, Option.bind] at p
    | some s1 =>
      simp only [gtCons, et, Option.bind] at p
      intro σ1 hs1 hw1
      refine ⟨ρ, us, s1, h, r2, hs1, cs, ?_⟩
      cases e2 : ts us s1 h with
      | none =>
        rw [e2] at p
        exact p.elim
      | some s2 =>
        rw [e2] at p
        exact fun σ2 hs2 hw2 => p σ2 hs2 fun vs hv => (hw2 vs fun i hi => hv i (List.mem_append_right _ hi)).trans (hw1 vs fun i hi => hv i (List.mem_append_left _ hi))
theorem gs_cons {es : List Expr} {is js : List Nat} {t : Gt} {ts : Gts} (h1 : PG X e (TGm g is t)) (h2 : PGs X es (TGsm g js ts))
    (hs : (assignEach (e :: es) X.env).map (·.2) = assign e X.env :: (assignEach es X.env).map (·.2) := by rfl) : PGs X (e :: es) (TGsm g (is ++ js) (gtCons t ts)) :=
  PGs.im (pgs_cons h1 h2 hs) fun _ _ _ _ q => q.cut
theorem g_tup {es : List Expr} {k n : Nat} {is : List Nat} {ts : Gts} (hc : X.calm = true) (h : PGs X es (TGsm g is ts))
    (hn : (assignEach es X.env).length = n := by rfl) (hst : (assignEach es X.env).findIdx? (·.1) = none := by rfl) : PG X (.Tuple es k pos) (TGm g is (gtT n ts)) := by
  refine PG.im (pg_tup hc h hn hst) fun v σ H Q ⟨ρ, u, s, hh, r, hs, cs, p⟩ => ?_
  cases u with
  | loc m =>
    simp only [gtT] at p
    cases em : hh[m]? with
    | none => rw [em] at p; exact p.elim
    | some o =>
      rw [em] at p
      cases o with
      | tup xs =>
        obtain ⟨a, vs, o, rfl, ea, rv, _, eh⟩ := cs.tup em r
        simp only at p
        by_cases hl : xs.length = n
        · rw [if_pos hl] at p
          exact ⟨a, vs, rfl, .inl (.inr ⟨o, eh⟩), by rw [← Paired.length rv]; exact hl, ρ, xs, s, hh, rv, hs, cs, p⟩
        · rw [if_neg hl] at p
          exact p.elim
      | tpl xs =>
        obtain ⟨a, vs, rfl, ea, rv, eh⟩ := cs.tpl em r
        simp only at p
        by_cases hl : xs.length = n
        · rw [if_pos hl] at p
          exact ⟨a, vs, rfl, SqT.of eh, by rw [← Paired.length rv]; exact hl, ρ, xs, s, hh, rv, hs, cs, p⟩
        · rw [if_neg hl] at p
          exact p.elim
      | _ => exact p.elim
  | _ => exact p.elim
theorem s_asg {tg : Expr} {is : List Nat} {t : Gt} (he : PE X e (T g W A)) (hg : PG X tg (TGm g is t)) (hs : swapsWithSole [tg] e pos.line X.env = pure false := by rfl) (hw : swappedStores [tg] e X.env = pure none := by rfl)
    (h1 : (assignEach [tg] X.env).map (·.2) = [assign tg X.env] := by rfl) : PS X (.Assign [tg] e pos) (TSm g W (sAsg A t)) := by
  refine PS.im (ps_asg he hg hs hw h1) fun D σ H q => AtS.seqE (rel := Rl g) (m := A) (k := fun u s h1 => match t u s h1 with | some s1 => .nx s1 h1 | none => .stuck) q fun ρ1 x s h1 b H1 hs c1 r1 p => ?_
  refine ⟨ρ1, x, s, h1, r1, hs, c1, ?_⟩
  cases et : t x s h1 with
  | none => rw [et] at p; exact p.elim
  | some s1 =>
    rw [et] at p
    exact fun σ1 hs1 _ => p ρ1 σ1 H1 (Wd.refl _) c1 hs1
theorem s_set {i : Nat} {x : Str} {pos' : Pos} (hN : X.N.Nodup) (he : PE X e (T g W A)) (hi : X.N[i]? = some x := by rfl) (hx : Loc X.env.scope x := by first | exact Or.inl rfl | exact Or.inr rfl) (hs : swapsWith e (some (.Name x pos')) pos.line X.env = pure false := by rfl) (hf : X.fn x = true ∨ X.env.scope.names.lookup x = some .local := by first | exact .inl rfl | exact .inr rfl) :
    PS X (.Assign [.Name x pos'] e pos) (TSm g W (sAsg A (gtN i))) :=
  PS.im (ps_set hN hi hx he hs hf) fun D σ H q => AtS.seqE (rel := Rl g) (m := A) (k := fun u s h1 => .nx (s.set i (some u)) h1) q fun ρ1 u s h1 v H1 hs c1 r1 p =>
    p ρ1 _ H1 (Wd.refl _) c1 (Paired.set (F := Rol g ρ1) (x := some u) (y := some v) r1 i hs)

/-! ### for -/
def TIt (g : Gc) (W : WX) (m : Mi) : TI := fun σ H R' => At g (ItOk g) m (WE W σ) σ H R'
theorem PI.im {tg it : Expr} {t t' : TI} (h : PI X tg it t) (i : ∀ σ H Q, t' σ H Q → t σ H Q) : PI X tg it t' := ⟨fun pins s σ H R I q => h.run pins s σ H R I (i σ H R q)⟩
theorem ItOk.mono {ρ ρ' : Wd} {it : Itm} {J : It} (e : Wd.Le ρ ρ') (k : ItOk g ρ it J) : ItOk g ρ' it J := fun ρ2 i h H e2 c2 => k ρ2 i h H (e.lx.trans e2) c2
theorem s_for {tg iter : Expr} {body : List Stmt} {mi : Mi} {is : List Nat} {t : Gt} (hp : PassesOwn (model X.prog X.w) X.A X.env X.xe) (hc : X.calm = true) (hi : PI X tg iter (TIt g W mi)) (hg : PG X tg (TGm g is t)) (hb : PSs X body (TSm g W M))
    (hs : ∀ x, foldedSetIterable iter X.env x = pure x := by intro _; rfl) : PS X (.For tg iter body [] pos) (TSm g W (sFor mi t M)) := by
  refine PS.im (ps_for hp hc hi hg hb hs) fun D σ H q => AtS.seqE (rel := ItOk g) (m := mi) (k := fun it s h1 => loopS it t M lim 0 s h1) q fun ρ1 it s h1 J H1 hs c1 k1 p => ?_
  refine ⟨fun i n σ H => ∃ ρ s h, Wd.Le ρ1 ρ ∧ Rsl g ρ s σ ∧ Cs g ρ h H ∧ PostS g W ρ (loopS it t M n i s h) D, ⟨lim, ρ1, s, h1, Wd.refl _, hs, c1, p⟩, ?_⟩
  rintro i n σ H ⟨ρ, s, h, e1, hs, cs, p⟩
  have kk := k1 ρ i h H e1.lx cs
  cases n with
  | zero => exact p.elim
  | succ n =>
    unfold loopS at p
    cases ei : it i h with
    | ok o h2 =>
      rw [ei] at p kk
      cases o with
      | none =>
        obtain ⟨rfl, st⟩ := kk
        exact .inl ⟨st, p ρ σ H (Wd.refl _) cs hs⟩
      | some x =>
        obtain ⟨go, yl⟩ := kk
        refine .inr ⟨go, fun σ' H' => ∃ ρ s h, Wd.Le ρ1 ρ ∧ Rsl g ρ s σ' ∧ Cs g ρ h H' ∧ PostS g W ρ (loopS it t M n (i + 1) s h) D, fun σ' H' z => ⟨n, Nat.lt_succ_self n, z⟩, fun v H' y => ?_⟩
        obtain ⟨ρ2, e2, c2, r2⟩ := yl v H' y
        refine ⟨ρ2, x, s, h2, r2, Rsl.mono e2 hs, c2, ?_⟩
        simp only at p
        cases et : t x s h2 with
        | none => rw [et] at p; exact p.elim
        | some s1 =>
          rw [et] at p
          simp only at p
          refine fun σ1 hs1 _ => ⟨ρ2, s1, h2, hs1, c2, ?_⟩
          cases eb : M s1 h2 with
          | nx s2 h3 =>
            rw [eb] at p
            exact fun ρ3 σ3 H3 e3 c3 r3 => ⟨ρ3, s2, h3, (e1.trans e2).trans e3, r3, c3, PostS.mono (e2.trans e3) p⟩
          | ct s2 h3 =>
            rw [eb] at p
            exact fun ρ3 σ3 H3 e3 c3 r3 => ⟨ρ3, s2, h3, (e1.trans e2).trans e3, r3, c3, PostS.mono (e2.trans e3) p⟩
          | bk s2 h3 =>
            rw [eb] at p
            exact fun ρ3 σ3 H3 e3 c3 r3 => p ρ3 σ3 H3 (e2.trans e3) c3 r3
          | rt u h3 =>
            rw [eb] at p
            exact fun ρ3 σ3 H3 e3 c3 r3 => p ρ3 σ3 H3 (e2.trans e3) c3 r3
          | ex c f s2 h3 =>
            rw [eb] at p
            exact XpS.mono e2 p
          | stuck =>
            rw [eb] at p
            exact p.elim
    | ex c f h2 => rw [ei] at p; exact p.elim
    | stuck => rw [ei] at p; exact p.elim

/-! ### what a loop walks -/
def itL (n : Nat) : Itm := fun i h => match h[n]? with
  | some (.lst xs) => .ok xs[i]? h
  | _ => .stuck
def itT (n : Nat) : Itm := fun i h => match h[n]? with
  | some (.tup xs) => .ok xs[i]? h
  | _ => .stuck
def itR (lo : Int) (n : Nat) : Itm := fun i h => if i < n then .ok (some (.int (lo + i))) h else .ok none h
def iL (a : Me) : Mi := fun s h => (a s h).bind fun u h1 => match u with
  | .loc n => match h1[n]? with
    | some (.lst _) => .ok (itL n) h1
    | _ => .stuck
  | _ => .stuck
def iT (a : Me) : Mi := fun s h => (a s h).bind fun u h1 => match u with
  | .loc n => match h1[n]? with
    | some (.tup _) => .ok (itT n) h1
    | _ => .stuck
  | _ => .stuck
def iR1 (L : Ml) : Mi := fun s h => (L s h).bind fun us h1 => match us with
  | [.int j] => if -(2 ^ 62) ≤ j ∧ j < 2 ^ 62 then .ok (itR 0 j.toNat) h1 else .stuck
  | _ => .stuck
def iR2 (L : Ml) : Mi := fun s h => (L s h).bind fun us h1 => match us with
  | [.int i, .int j] => if -(2 ^ 62) ≤ i ∧ i < 2 ^ 62 ∧ -(2 ^ 62) ≤ j ∧ j < 2 ^ 62 then .ok (itR i (j - i).toNat) h1 else .stuck
  | _ => .stuck
theorem itL_ok {K : PySem.W.Frag} {ρ : Wd} {n : Nat} {a : Addr} (ea : ρ.as[n]? = some a) : ItOk g ρ (itL n) (Itl K a) := fun ρ2 i h H e2 c2 => by
  unfold itL
  cases eh : h[n]? with
  | none => trivial
  | some o =>
    cases o with
    | lst xs =>
      have ea2 := pre_getx e2 ea
      obtain ⟨vs, rv, q⟩ := c2.at_ n _ a eh ea2
      cases ex : xs[i]? with
      | none =>
        show ItP _ _ _ _ _ _ (.ok xs[i]? h)
        rw [ex]
        refine ⟨rfl, vs, SqL.of q, ?_⟩
        rw [← Paired.length rv]
        exact List.getElem?_eq_none_iff.mp ex
      | some x =>
        obtain ⟨v, ev, r⟩ := Paired.get rv ex
        show ItP _ _ _ _ _ _ (.ok xs[i]? h)
        rw [ex]
        refine ⟨⟨vs, v, SqL.of q, ev⟩, fun v' H' y => ?_⟩
        obtain ⟨rfl, y⟩ := y
        have ev' := y vs (SqL.of q)
        rw [ev] at ev'
        cases ev'
        exact ⟨ρ2, Wd.refl _, c2, r⟩
    | _ => trivial
theorem itT_ok {K : PySem.W.Frag} {ρ : Wd} {n : Nat} {a : Addr} (ea : ρ.as[n]? = some a) : ItOk g ρ (itT n) (Itt K a) := fun ρ2 i h H e2 c2 => by
  unfold itT
  cases eh : h[n]? with
  | none => trivial
  | some o =>
    cases o with
    | tup xs =>
      have ea2 := pre_getx e2 ea
      obtain ⟨vs, ob, rv, _, q⟩ := c2.at_ n _ a eh ea2
      have q : SqT K H a vs := .inl (.inr ⟨ob, q⟩)
      cases ex : xs[i]? with
      | none =>
        show ItP _ _ _ _ _ _ (.ok xs[i]? h)
        rw [ex]
        refine ⟨rfl, vs, q, ?_⟩
        rw [← Paired.length rv]
        exact List.getElem?_eq_none_iff.mp ex
      | some x =>
        obtain ⟨v, ev, r⟩ := Paired.get rv ex
        show ItP _ _ _ _ _ _ (.ok xs[i]? h)
        rw [ex]
        refine ⟨⟨vs, v, q, ev⟩, fun v' H' y => ?_⟩
        obtain ⟨rfl, y⟩ := y
        have ev' := y vs (q)
        rw [ev] at ev'
        cases ev'
        exact ⟨ρ2, Wd.refl _, c2, r⟩
    | _ => trivial
theorem itR_ok {ρ : Wd} {lo : Int} {n : Nat} : ItOk g ρ (itR lo n) (Itr lo n) := fun ρ2 i h H e2 c2 => by
  unfold itR
  by_cases hi : i < n
  · rw [if_pos hi]
    refine ⟨hi, fun v H' y => ?_⟩
    obtain ⟨rfl, rfl⟩ := y
    exact ⟨ρ2, Wd.refl _, c2, rfl⟩
  · rw [if_neg hi]
    exact ⟨rfl, Nat.le_of_not_lt hi⟩
theorem i_list {tg : Expr} (ha : PE X a (T g W A)) : PI X tg a (TIt g W (iL A)) := by
  refine PI.im (pi_list ha) fun σ H R' q => At.seq (rel := Rl g) q fun ρ1 x s h1 v H1 hs1 c1 r1 p1 => ?_
  cases x with
  | loc n =>
    simp only at p1
    cases eh : h1[n]? with
    | none => rw [eh] at p1; exact p1.elim
    | some o =>
      rw [eh] at p1
      cases o with
      | lst xs =>
        obtain ⟨ad, vs, rfl, ea, rv, q⟩ := c1.lst eh r1
        exact ⟨ad, rfl, ⟨vs, SqL.of q⟩, Post.here (rel := ItOk g) p1 c1 (itL_ok ea)⟩
      | _ => exact p1.elim
  | _ => exact p1.elim
theorem i_tup {tg : Expr} (ha : PE X a (T g W A)) : PI X tg a (TIt g W (iT A)) := by
  refine PI.im (pi_tup ha) fun σ H R' q => At.seq (rel := Rl g) q fun ρ1 x s h1 v H1 hs1 c1 r1 p1 => ?_
  cases x with
  | loc n =>
    simp only at p1
    cases eh : h1[n]? with
    | none => rw [eh] at p1; exact p1.elim
    | some o =>
      rw [eh] at p1
      cases o with
      | tup xs =>
        obtain ⟨ad, vs, o, rfl, ea, rv, _, q⟩ := c1.tup eh r1
        exact ⟨ad, rfl, ⟨vs, .inl (.inr ⟨o, q⟩)⟩, Post.here (rel := ItOk g) p1 c1 (itT_ok ea)⟩
      | _ => exact p1.elim
  | _ => exact p1.elim
theorem i_range1 {tg : Expr} {L : Ml} {p : Pos} (hg : Gl X "range") (hm : X.mg "range" = none) (ha : PA X [a] (TL g W L)) (hs : starEach [a] X.env = [(false, eval a X.env)] := by rfl) : PI X tg (.Call (.Name "range" p) [a] [] pos) (TIt g W (iR1 L)) := by
  refine PI.im (pi_range1 hg hm ha hs) fun σ H R' q => At.seq (rel := Rls g) q fun ρ1 xs s h1 v H1 hs1 c1 r1 p1 => ?_
  cases r1 with
  | nil => exact p1.elim
  | cons r1 r2 =>
    rename_i x v xs vs
    cases r2 with
    | cons _ _ => cases x <;> exact p1.elim
    | nil =>
      cases x with
      | int j =>
        simp only at p1
        by_cases hj : -(2 ^ 62) ≤ j ∧ j < 2 ^ 62
        · rw [if_pos hj] at p1
          exact ⟨j, by rw [r1], hj.1, hj.2, Post.here (rel := ItOk g) p1 c1 itR_ok⟩
        · rw [if_neg hj] at p1
          exact p1.elim
      | _ => exact p1.elim
theorem i_range2 {tg : Expr} {L : Ml} {p : Pos} (hg : Gl X "range") (hm : X.mg "range" = none) (ha : PA X [a, b] (TL g W L)) (hs : starEach [a, b] X.env = [(false, eval a X.env), (false, eval b X.env)] := by rfl) (hs2 : starEach [b] X.env = [(false, eval b X.env)] := by rfl) :
    PI X tg (.Call (.Name "range" p) [a, b] [] pos) (TIt g W (iR2 L)) := by
  refine PI.im (pi_range2 hg hm ha hs hs2) fun σ H R' q => At.seq (rel := Rls g) q fun ρ1 xs s h1 v H1 hs1 c1 r1 p1 => ?_
  cases r1 with
  | nil => exact p1.elim
  | cons r1 r2 =>
    rename_i x v xs vs
    cases r2 with
    | nil => cases x <;> exact p1.elim
    | cons r2 r3 =>
      rename_i y w ys ws
      cases x with
      | int i =>
        cases y with
        | int j =>
          cases r3 with
          | cons _ _ => exact p1.elim
          | nil =>
            simp only at p1
            by_cases hj : -(2 ^ 62) ≤ i ∧ i < 2 ^ 62 ∧ -(2 ^ 62) ≤ j ∧ j < 2 ^ 62
            · rw [if_pos hj] at p1
              exact ⟨i, j, by rw [r1, r2], hj, Post.here (rel := ItOk g) p1 c1 itR_ok⟩
            · rw [if_neg hj] at p1
              exact p1.elim
        | _ => exact p1.elim
      | _ => exact p1.elim
end
end Vm

set_option Elab.async false
set_option linter.all false
set_option maxRecDepth 100000
set_option maxHeartbeats 4100000
namespace Vm
open L2 PyProof.Rows PySem PySem.Spec

/-! ### list comprehensions -/
def bYes : Mb := fun _ h => .ok true h
def wipeM (s : Sl) : List Nat → Sl
  | [] => s
  | v :: vs => (wipeM s vs).set v none
def loopC (it : Itm) (t : Gt) (q : Mb) (e : Me) (s : Sl) (n : Nat) : Nat → Nat → Mh → R U
  | 0, _, _ => .stuck
  | k + 1, i, h => match it i h with
    | .ok none h1 => .ok (.loc n) h1
    | .ok (some x) h1 => match t x s h1 with
      | some s1 => match q s1 h1 with
        | .ok true h2 => match e s1 h2 with
          | .ok y h3 => match h3[n]? with
            | some (.lst acc) => if acc.length < 100000 then loopC it t q e s n k (i + 1) (h3.set n (.lst (acc ++ [y]))) else .stuck
            | _ => .stuck
          | _ => .stuck
        | .ok false h2 => loopC it t q e s n k (i + 1) h2
        | _ => .stuck
      | none => .stuck
    | _ => .stuck
def mLc (mi : Mi) (t : Gt) (q : Mb) (e : Me) (vs : List Nat) : Me := fun s h => (mi s h).bind fun it h1 => loopC it t q e (wipeM s vs) h1.length lim 0 (h1 ++ [.lst []])
abbrev W0 : WX := fun _ _ _ _ => False
section
variable {g : Gc} {ρ ρ' : Wd} {W : WX}
theorem Rsl.wipe {s : Sl} {σ : L2.St} (r : Rsl g ρ s σ) : ∀ vs, Rsl g ρ (wipeM s vs) (wipe σ vs)
  | [] => r
  | v :: vs => Paired.set (F := Rol g ρ) (x := none) (y := none) trivial v (Rsl.wipe r vs)
theorem wipe_self {σ : L2.St} : ∀ {vs : List Nat}, wipe (wipe σ vs) vs = wipe σ vs := fun {vs} => by
  have gen : ∀ (us ws : List Nat), (∀ i ∈ us, i ∈ ws) → wipe (wipe σ us) ws = wipe σ ws := fun us => by
    induction us with
    | nil => intro ws _; rfl
    | cons u us ih =>
      intro ws hw
      show wipe ((wipe σ us).set u none) ws = wipe σ ws
      rw [wipe_set (hw u List.mem_cons_self)]
      exact ih ws fun i hi => hw i (List.mem_cons_of_mem _ hi)
  exact gen vs vs fun _ h => h
theorem lim_line {n : Nat} (h : n < 100000) : n < sizeLine := by
  rw [sizeLine_eq]
  omega
end
section
variable {X : Cx} {g : Gc} {W : WX} {a b c e : Expr} {A B Cc : Me} {pos : Pos}
theorem b_yes : PTs X [] (TB g W bYes) := ⟨fun pins s σ H Q I q => pts_nil.run pins s σ H Q I (by obtain ⟨ρ, s, h, hs, cs, p⟩ := q; exact Post.here (rel := relB) p cs rfl)⟩
theorem b_one {t : Mb} (h : PT X c (TB g W t)) : PTs X [c] (TB g W t) := pts_one h
/-- the comprehension's reading -/
theorem lc_read {mi : Mi} {is : List Nat} {t : Gt} {q : Mb} {el : Me} {vs : List Nat} (hv : ∀ i ∈ is, i ∈ vs) {σ : L2.St} {H : Hp} {Q : VK} (z : T g W (mLc mi t q el vs) σ H Q) : tLc (TIt g W mi) (TGm g is t) (TB g W0 q) (T g W0 el) vs σ H Q := by
  refine At.seq (rel := ItOk g) z fun ρ1 it s h1 J H1 hs c1 k1 p => ?_
  intro D hD
  have c0 : Cs g (ρ1.snoc D) (h1 ++ [.lst []]) (upd H1 D (.lst [])) := c1.new hD ⟨[], .nil, upd_same⟩
  have eD : (ρ1.snoc D).as[h1.length]? = some D := new_get ρ1 D c1.len
  refine ⟨fun i n H => ∃ ρ h, Wd.Le (ρ1.snoc D) ρ ∧ Cs g ρ h H ∧ Post g (Rl g) ρ (loopC it t q el (wipeM s vs) h1.length n i h) Q (WE W σ), ⟨lim, _, _, Wd.refl _, c0, Post.mono (pre_snoc _ _) p⟩, ?_⟩
  rintro i n H ⟨ρ, h, e1, cs, p⟩
  have e0 : Wd.Le ρ1 ρ := (pre_snoc _ _).trans e1
  have kk := k1 ρ i h H e0.lx cs
  have ws : Rsl g ρ (wipeM s vs) (wipe σ vs) := Rsl.mono e0 (Rsl.wipe hs vs)
  cases n with
  | zero => exact p.elim
  | succ n =>
    unfold loopC at p
    cases ei : it i h with
    | ok o h2 =>
      rw [ei] at p kk
      cases o with
      | none =>
        obtain ⟨rfl, st⟩ := kk
        exact .inl ⟨st, p ρ (.ref D) H (Wd.refl _) cs ⟨D, pre_get e1 eD, rfl⟩⟩
      | some x =>
        obtain ⟨go, yl⟩ := kk
        refine .inr ⟨go, fun H' => ∃ ρ h, Wd.Le (ρ1.snoc D) ρ ∧ Cs g ρ h H' ∧ Post g (Rl g) ρ (loopC it t q el (wipeM s vs) h1.length n (i + 1) h) Q (WE W σ), fun H' w => ⟨n, Nat.lt_succ_self n, w⟩, fun v H' y => ?_⟩
        obtain ⟨ρ2, e2, c2, r2⟩ := yl v H' y
        refine ⟨ρ2, x, wipeM s vs, h2, r2, Rsl.mono e2 ws, c2, ?_⟩
        simp only at p
        cases et : t x (wipeM s vs) h2 with
        | none => rw [et] at p; exact p.elim
        | some s1 =>
          rw [et] at p
          simp only at p
          refine fun σ1 hs1 hw1 => ⟨(hw1 vs hv).trans wipe_self, ρ2, s1, h2, hs1, c2, ?_⟩
          cases eq : q s1 h2 with
          | ok k h3 =>
            rw [eq] at p
            intro ρ3 k' H3 e3 c3 r3
            cases r3
            cases k with
            | true =>
              rw [if_pos rfl]
              simp only at p
              refine ⟨ρ3, s1, h3, Rsl.mono e3 hs1, c3, ?_⟩
              cases ee : el s1 h3 with
              | ok y h4 =>
                rw [ee] at p
                simp only at p
                intro ρ4 yv H4 e4 c4 r4
                have e14 : Wd.Le (ρ1.snoc D) ρ4 := ((e1.trans e2).trans e3).trans e4
                cases en : h4[h1.length]? with
                | none => rw [en] at p; exact p.elim
                | some o =>
                  rw [en] at p
                  cases o with
                  | lst acc =>
                    simp only at p
                    obtain ⟨accv, ra, ea⟩ := c4.at_ _ _ D en (pre_get e14 eD)
                    by_cases hl : acc.length < 100000
                    · rw [if_pos hl] at p
                      refine ⟨accv, ea, by rw [← Paired.length ra]; exact lim_line hl, ρ4, _, e14, c4.put (o := .lst (acc ++ [y])) (pre_get e14 eD) (nfL ea) ⟨accv ++ [yv], Paired.app ra (.cons r4 .nil), upd_same⟩ (c4.live en (pre_get e14 eD)), Post.mono ((e2.trans e3).trans e4) p⟩
                    · rw [if_neg hl] at p
                      exact p.elim
                  | _ => exact p.elim
              | ex c f h4 => rw [ee] at p; exact p.elim
              | stuck => rw [ee] at p; exact p.elim
            | false =>
              rw [if_neg Bool.false_ne_true]; exact ⟨ρ3, h3, (e1.trans e2).trans e3, c3, Post.mono (e2.trans e3) p⟩
          | ex c f h3 => rw [eq] at p; exact p.elim
          | stuck => rw [eq] at p; exact p.elim
    | ex c f h2 => rw [ei] at p; exact p.elim
    | stuck => rw [ei] at p; exact p.elim
theorem e_lc {elt tg iter : Expr} {ifs : List Expr} {scope : Scope} {own : List (Str × Nat)} {mi : Mi} {is : List Nat} {t : Gt} {q : Mb} {el : Me} (hc : X.calm = true) (hN : X.N.Nodup) (hi : PI X tg iter (TIt g W mi)) (ok : BlkOk X.N X.env.scope scope own)
    (hg : ∀ (s : Shared) (H : Hp) (C : Addr) (cl : List (Str × Addr)) (fp : List Addr), PG (X.blk s H scope (compEnvC scope cl C X.env) fp) tg (TGm g is t)) (ht : ∀ (s : Shared) (H : Hp) (C : Addr) (cl : List (Str × Addr)) (fp : List Addr), PTs (X.blk s H scope (compEnvC scope cl C X.env) fp) ifs (TB g W0 q))
    (he : ∀ (s : Shared) (H : Hp) (C : Addr) (cl : List (Str × Addr)) (fp : List Addr), PE (X.blk s H scope (compEnvC scope cl C X.env) fp) elt (T g W0 el)) (hv : ∀ i ∈ is, i ∈ own.map (·.2)) (hs : ∀ x, foldedSetIterable iter X.env x = pure x := by intro _; rfl) :
    PE X (.ListComp elt [⟨tg, iter, ifs, 0⟩] scope pos) (T g W (mLc mi t q el (own.map (·.2)))) :=
  PE.im (pe_lc hc hN hi ok hg ht he hs) fun σ H Q z => lc_read hv z
theorem s_setLc {i : Nat} {y : Str} {py spos : Pos} {elt tg iter : Expr} {ifs : List Expr} {scope : Scope} {own : List (Str × Nat)} {mi : Mi} {is : List Nat} {t : Gt} {q : Mb} {el : Me} (hc : X.calm = true) (hN : X.N.Nodup) (hy : X.N[i]? = some y) (hyl : X.env.scope.names.lookup y = some .local)
    (hsw : swapsWith (.ListComp elt [⟨tg, iter, ifs, 0⟩] scope pos) (some (.Name y py)) spos.line X.env = pure true) (hi : PI X tg iter (TIt g W mi)) (ok : BlkOk X.N X.env.scope scope own)
    (hg : ∀ (s : Shared) (H : Hp) (C : Addr) (cl : List (Str × Addr)) (fp : List Addr), PG (X.blk s H scope (compEnvC scope cl C X.env) fp) tg (TGm g is t)) (ht : ∀ (s : Shared) (H : Hp) (C : Addr) (cl : List (Str × Addr)) (fp : List Addr), PTs (X.blk s H scope (compEnvC scope cl C X.env) fp) ifs (TB g W0 q))
    (he : ∀ (s : Shared) (H : Hp) (C : Addr) (cl : List (Str × Addr)) (fp : List Addr), PE (X.blk s H scope (compEnvC scope cl C X.env) fp) elt (T g W0 el)) (hv : ∀ i ∈ is, i ∈ own.map (·.2)) (hs : ∀ x, foldedSetIterable iter X.env x = pure x := by intro _; rfl) :
    PS X (.Assign [.Name y py] (.ListComp elt [⟨tg, iter, ifs, 0⟩] scope pos) spos) (TSm g W (sAsg (mLc mi t q el (own.map (·.2))) (gtN i))) :=
  PS.im (ps_setLc hc hN hy hyl hsw hi ok hg ht he hs) fun D σ H z => lc_read hv (AtS.seqE (rel := Rl g) (k := fun u s h1 => .nx (s.set i (some u)) h1) z fun ρ1 u s h1 v H1 hs c1 r1 p =>
    p ρ1 _ H1 (Wd.refl _) c1 (Paired.set (F := Rol g ρ1) (x := some u) (y := some v) r1 i hs))
end

/-! ### a def -/
def finR : RS → R U
  | .nx _ h => .ok .non h
  | .rt u h => .ok u h
  | .ex c f _ h => .ex c f h
  | _ => .stuck
def runB (N : Nat) (m : Ms) : List U → Mh → R U := fun us h => finR (m (us.map some ++ List.replicate (N - us.length) none) h)
theorem spM_len {g : Gc} {n : Nat} {d : List U → Mh → R U} : ∀ vs H Q E, spM g n d vs H Q E → vs.length = n := fun _ _ _ _ h => h.1
theorem run_read {g : Gc} {N : List Str} {n : Nat} {m : Ms} {vs : List V} {H : Hp} {Q : VK} {E : XK} (q : spM g n (runB N.length m) vs H Q E) : TSm g (fun cls d _ H => E cls d H) m { nx := fun _ H' => Q .non H', rt := Q } (L2.start N vs) H := by
  obtain ⟨_, ρ, us, h, r, cs, p⟩ := q
  refine ⟨ρ, us.map some ++ List.replicate (N.length - us.length) none, h, ?_, cs, ?_⟩
  · unfold L2.start
    refine Paired.app (Rls.somes r) ?_
    rw [← Paired.length r]
    exact Paired.rep (F := Rol g ρ) (x := none) (y := none) trivial _
  · unfold runB at p
    cases em : m (us.map some ++ List.replicate (N.length - us.length) none) h with
    | nx s h1 => rw [em] at p; exact fun ρ2 σ H2 e2 c2 _ => p ρ2 .non H2 e2 c2 rfl
    | rt u h1 => rw [em] at p; exact fun ρ2 v H2 e2 c2 r2 => p ρ2 v H2 e2 c2 r2
    | bk s h1 => rw [em] at p; exact p.elim
    | ct s h1 => rw [em] at p; exact p.elim
    | ex c f s h1 => rw [em] at p; exact fun ρ2 σ H2 e2 c2 _ => p ρ2 H2 e2 c2
    | stuck => rw [em] at p; exact p.elim
/-- a def's promise by its body's mirror -/
theorem fn_ok {P : Program} {w : World} {K : PySem.W.Frag} {mg : Str → Option Value} {base : Heap} {g : Gc} {x qual : Str} {st : Stmt} {f : Addr} {fd : FuncData} {N ps : List Str} {k : Nat} {m : Ms} (F : Fun K x qual st f fd) (S : FnScope N ps (defScope st))
    (body : ∀ (cdv : Value) (A : Around) (outer : List Env) (s : Shared) (H : Hp) (E : XK), Room k (A.deeper (envOfC qual (defScope st) s.heap.objs.size f cdv)) →
      PSs (cxOf (L2.CX P w) P w K mg base N qual (defScope st) f cdv A outer s H E) (defBody st) (TSm g (fun cls d _ H => E cls d H) m)) :
    FnOk P w K mg base (L2.CX P w) (k + 1) f fd ps (spM g ps.length (runB N.length m)) :=
  F.okX S spM_len fun cdv A outer s H vs Q E hr h => ⟨_, body cdv A outer s H E hr, run_read h⟩
theorem fn_ok2 {P : Program} {w : World} {K : PySem.W.Frag} {mg : Str → Option Value} {base : Heap} {g : Gc} {x qual : Str} {st : Stmt} {f : Addr} {fd : FuncData} {N ps : List Str} {k : Nat} {m : Ms} (F : Fun K x qual st f fd) (S : FnScope N ps (defScope st))
    (body : ∀ (cdv : Value) (A : Around) (outer : List Env) (s : Shared) (H : Hp) (E : XK), Room k (A.deeper (envOfC qual (defScope st) s.heap.objs.size f cdv)) →
      (cxOf (L2.CX P w) P w K mg base N qual (defScope st) f cdv A outer s H E).A.units + 65 < cLine →
      PassesOwn (model P w) (cxOf (L2.CX P w) P w K mg base N qual (defScope st) f cdv A outer s H E).A (cxOf (L2.CX P w) P w K mg base N qual (defScope st) f cdv A outer s H E).env (cxOf (L2.CX P w) P w K mg base N qual (defScope st) f cdv A outer s H E).xe →
      Takes (cxOf (L2.CX P w) P w K mg base N qual (defScope st) f cdv A outer s H E) (fun cls d _ H => E cls d H) →
      PSs (cxOf (L2.CX P w) P w K mg base N qual (defScope st) f cdv A outer s H E) (defBody st) (TSm g (fun cls d _ H => E cls d H) m)) :
    FnOk P w K mg base (L2.CX P w) (k + 1) f fd ps (spM g ps.length (runB N.length m)) :=
  fn_ok F S fun cdv A outer s H E hr => body cdv A outer s H E hr (by have := hr.un; show (A.deeper (envOfC qual (defScope st) s.heap.objs.size f cdv)).units + 65 < cLine; omega) (passes_of rfl) (takes_of rfl rfl rfl rfl)
end Vm

set_option Elab.async false
set_option linter.all false
set_option maxRecDepth 100000
set_option maxHeartbeats 4100000
namespace Vm
open L2 PyProof.Rows PySem PySem.Spec

/-! ### data of any depth, read off a mirror's heap -/
def rdL (f : U → Option PyData) : List U → Option (List PyData)
  | [] => some []
  | u :: us => match f u with
    | some d => match rdL f us with
      | some ds => some (d :: ds)
      | none => none
    | none => none
def rd (h : Mh) : Nat → U → Option PyData
  | _, .non => some .none
  | _, .bl b => some (.bool b)
  | _, .int i => some (.int i)
  | _, .str x => some (.str x)
  | 0, .loc _ => none
  | k + 1, .loc n => match h[n]? with
    | some (.lst xs) => match rdL (rd h k) xs with
      | some ds => some (.list ds)
      | none => none
    | some (.tup xs) => match rdL (rd h k) xs with
      | some ds => some (.tuple ds)
      | none => none
    | _ => none
  | _, .scr => none
  | _, .exn => none
  | _, .dat d => some d
  | _, .obj _ _ => none
  | _, .pr _ => none
theorem rdL_dp {g : Gc} {K : PySem.W.Frag} {ρ : Wd} {H : Hp} {f : U → Option PyData} (hf : ∀ u v d, Rl g ρ u v → f u = some d → Dp K H v d) : ∀ (us : List U) (vs : List V) (ds : List PyData), Rls g ρ us vs → rdL f us = some ds → DpAll K H vs ds
  | [], _, _, .nil, e => by
    unfold rdL at e
    cases e
    exact .nil
  | u :: us, _, ds, .cons r rs, e => by
    unfold rdL at e
    cases e1 : f u with
    | none => rw [e1] at e; cases e
    | some d =>
      rw [e1] at e
      cases e2 : rdL f us with
      | none => rw [e2] at e; cases e
      | some dt =>
        rw [e2] at e
        cases e
        exact .cons (hf _ _ _ r e1) (rdL_dp hf _ _ _ rs e2)
theorem rd_dp {g : Gc} {ρ : Wd} {h : Mh} {H : Hp} (cs : Cs g ρ h H) : ∀ (k : Nat) (u : U) (v : V) (d : PyData), Rl g ρ u v → rd h k u = some d → Dp g.K H v d := fun k => by
  induction k with
  | zero =>
    intro u v d r e
    cases u with
    | non => unfold rd at e; cases e; cases r; exact .non
    | bl b => unfold rd at e; cases e; cases r; exact .bl b
    | int b => unfold rd at e; cases e; cases r; exact .int b
    | str b => unfold rd at e; cases e; cases r; exact .str b
    | loc n => unfold rd at e; cases e
    | scr => unfold rd at e; cases e
    | exn => unfold rd at e; cases e
    | dat d => unfold rd at e; cases e; exact Dq.dp _ _ (Dq.hle cs.fzH _ _ r.2)
    | obj c fs => unfold rd at e; cases e
    | pr ds => unfold rd at e; cases e
  | succ k ih =>
    intro u v d r e
    cases u with
    | non => unfold rd at e; cases e; cases r; exact .non
    | bl b => unfold rd at e; cases e; cases r; exact .bl b
    | int b => unfold rd at e; cases e; cases r; exact .int b
    | str b => unfold rd at e; cases e; cases r; exact .str b
    | scr => unfold rd at e; cases e
    | exn => unfold rd at e; cases e
    | dat d => unfold rd at e; cases e; exact Dq.dp _ _ (Dq.hle cs.fzH _ _ r.2)
    | obj c fs => unfold rd at e; cases e
    | pr ds => unfold rd at e; cases e
    | loc n =>
      unfold rd at e
      cases en : h[n]? with
      | none => rw [en] at e; cases e
      | some o =>
        rw [en] at e
        cases o with
        | lst xs =>
          simp only at e
          cases e2 : rdL (rd h k) xs with
          | none => rw [e2] at e; cases e
          | some ds =>
            rw [e2] at e
            cases e
            obtain ⟨a, vs, rfl, _, rv, ea⟩ := cs.lst en r
            exact .lst (SqL.of ea) (rdL_dp ih _ _ _ rv e2)
        | tup xs =>
          simp only at e
          cases e2 : rdL (rd h k) xs with
          | none => rw [e2] at e; cases e
          | some ds =>
            rw [e2] at e
            cases e
            obtain ⟨a, vs, o, rfl, _, rv, _, ea⟩ := cs.tup en r
            exact .tup (.inl (.inr ⟨o, ea⟩)) (rdL_dp ih _ _ _ rv e2)
        | tpl xs => cases e
        | ins c fs => cases e
        | exc c fs => cases e
        | ded => cases e

/-! ### ints -/
def fI (c : Int → Int → Bool) (k : Int → Int → U) : F2 := fun x y h => match x, y with
  | .int i, .int j => if c i j then .ok (k i j) h else .stuck
  | _, _ => .stuck
def fLt : F2 := fI (fun _ _ => true) fun i j => .bl (decide (i < j))
def fLe : F2 := fI (fun _ _ => true) fun i j => .bl (decide (i ≤ j))
def fGt : F2 := fI (fun _ _ => true) fun i j => .bl (decide (j < i))
def fGe : F2 := fI (fun _ _ => true) fun i j => .bl (decide (j ≤ i))
def fSub : F2 := fI (fun _ _ => true) fun i j => .int (i - j)
def fMod : F2 := fI (fun _ j => decide (0 < j)) fun i j => .int (i % j)
def fDiv : F2 := fI (fun _ j => decide (0 < j ∧ j < 1073741824)) fun i j => .int (i / j)
def fPow : F2 := fI (fun i j => decide (0 ≤ j ∧ j ≤ 1000000 ∧ i.natAbs < 2 ^ 64)) fun i j => .int (i ^ j.toNat)
section
variable {g : Gc}
theorem s_fI {c : Int → Int → Bool} {C : Int → Int → Prop} {k : Int → Int → U} {kv : Int → Int → V} (hc : ∀ i j, c i j = true → C i j) (hk : ∀ ρ i j, Rl g ρ (k i j) (kv i j)) : S2 g (fI c k) (rI C kv) := fun E ρ x y vx vy h H Q rx ry cs p => by
  cases x with
  | int i =>
    cases y with
    | int j =>
      unfold fI at p
      simp only at p
      cases ec : c i j with
      | true => rw [ec, if_pos rfl] at p; exact ⟨i, j, rx, ry, hc i j ec, Post.here (rel := Rl g) p cs (hk ρ i j)⟩
      | false => rw [ec, if_neg Bool.false_ne_true] at p; exact p.elim
    | _ => exact p.elim
  | _ => cases y <;> exact p.elim
theorem s_fI0 {k : Int → Int → U} {kv : Int → Int → V} (hk : ∀ ρ i j, Rl g ρ (k i j) (kv i j)) : S2 g (fI (fun _ _ => true) k) (rI0 kv) := fun E ρ x y vx vy h H Q rx ry cs p => by
  cases x with
  | int i =>
    cases y with
    | int j =>
      unfold fI at p
      simp only [if_true] at p
      exact ⟨i, j, rx, ry, Post.here (rel := Rl g) p cs (hk ρ i j)⟩
    | _ => exact p.elim
  | _ => cases y <;> exact p.elim
theorem s_lt : S2 g fLt (rI0 fun i j => .bl (decide (i < j))) := s_fI0 fun _ _ _ => rfl
theorem s_le : S2 g fLe (rI0 fun i j => .bl (decide (i ≤ j))) := s_fI0 fun _ _ _ => rfl
theorem s_gt : S2 g fGt (rI0 fun i j => .bl (decide (j < i))) := s_fI0 fun _ _ _ => rfl
theorem s_ge : S2 g fGe (rI0 fun i j => .bl (decide (j ≤ i))) := s_fI0 fun _ _ _ => rfl
theorem s_sub : S2 g fSub (rI0 fun i j => .int (i - j)) := s_fI0 fun _ _ _ => rfl
theorem s_mod : S2 g fMod (rI (fun _ j => 0 < j) fun i j => .int (i % j)) := s_fI (fun _ _ => of_decide_eq_true) fun _ _ _ => rfl
theorem s_div : S2 g fDiv (rI CDiv fun i j => .int (i / j)) := s_fI (fun i j h => (of_decide_eq_true h : 0 < j ∧ j < 1073741824)) fun _ _ _ => rfl
theorem s_pow : S2 g fPow (rI CPow fun i j => .int (i ^ j.toNat)) := s_fI (fun i j h => (of_decide_eq_true h : 0 ≤ j ∧ j ≤ 1000000 ∧ i.natAbs < 2 ^ 64)) fun _ _ _ => rfl
end

/-! ### + and * by the kinds of both -/
theorem OpR.or {X : Cx} {f : Value → Value → Sem Value} {r r' : R2} (h : OpR X f r) (h' : OpR X f r') : OpR X f (fun x y H Q => r x y H Q ∨ r' x y H Q) := fun pins s σ H x y v u Q I rx ry q => q.elim (h pins s σ H x y v u Q I rx ry) (h' pins s σ H x y v u Q I rx ry)
def okLen (n : Nat) : Bool := decide (n ≤ 100000)
def fAdd : F2 := fun x y h => match x, y with
  | .int i, .int j => .ok (.int (i + j)) h
  | .str a, .str b => if okLen (a.length + b.length) then .ok (.str (a ++ b)) h else .stuck
  | .loc n, .loc m => match h[n]?, h[m]? with
    | some (.lst xs), some (.lst ys) => if okLen (xs.length + ys.length) then newO (.lst (xs ++ ys)) h else .stuck
    | some (.tup xs), some (.tup ys) => if okLen (xs.length + ys.length) then (match xs, ys with
      | [], _ => .ok (.loc m) h
      | _ :: _, [] => .ok (.loc n) h
      | x :: xs, y :: ys => newO (.tup ((x :: xs) ++ (y :: ys))) h) else .stuck
    | _, _ => .stuck
  | _, _ => .stuck
def rCatX (K : PySem.W.Frag) : R2 := fun x y H Q => ∃ a b xs ys, x = .ref a ∧ y = .ref b ∧ SqT K H a xs ∧ SqT K H b ys ∧ xs.length + ys.length ≤ sizeLine ∧
  (xs = [] → Q (.ref b) H) ∧ (xs ≠ [] → ys = [] → Q (.ref a) H) ∧ (xs ≠ [] → ys ≠ [] → ∀ p o, o.dict = none → H p = none → Q (.ref p) (upd H p (.frz o (.tup (xs ++ ys)))))
abbrev rAddAll (K : PySem.W.Frag) : R2 := fun x y H Q => rI0 (fun i j => .int (i + j)) x y H Q ∨ ((∃ i j, x = .str i ∧ y = .str j ∧ i.length + j.length ≤ sizeLine ∧ Q (.str (i ++ j)) H) ∨ (rCat x y H Q ∨ rCatX K x y H Q))
section
variable {X : Cx} {g : Gc}
theorem op_catX : OpR X (binaryOp .Add) (rCatX X.K) := by
  intro pins s σ H x y v u Q I rx ry h; obtain ⟨a, b, xs, ys, rfl, rfl, ha, hb, hz, q0, q1, q2⟩ := h
  cases rx
  cases ry
  obtain ⟨its, r1, p1, _⟩ := I.tuple ha; obtain ⟨its2, r2, p2, _⟩ := I.tuple hb
  by_cases hx : xs = []
  · subst hx
    cases r1; exact cat_tup0 p1 p2 ⟨.ref b, H, I, rfl, q0 rfl⟩
  · refine HT.cat_tup p1 p2 (fun z => hx (r1.nil_iff.mp z)) (fun z => ⟨.ref a, H, I, rfl, q1 hx (r2.nil_iff.mp z)⟩) (fun z => ?_) (by rw [← r1.length, ← r2.length]; exact hz)
    exact ⟨.ref s.heap.objs.size, _, tup_laid I (r1.append r2) (by rw [List.length_append]; exact hz), rfl, q2 hx (fun w => z (r2.nil_iff.mpr w)) _ _ rfl (I.hok.fresh (Nat.le_refl _))⟩
theorem o_add : OpR X (binaryOp .Add) (rAddAll X.K) := OpR.or op_add (OpR.or op_add_str (OpR.or op_cat op_catX))
theorem okLen_line {n : Nat} (h : okLen n = true) : n ≤ sizeLine := big_line (of_decide_eq_true h)
theorem s_add {K : PySem.W.Frag} : S2 g fAdd (rAddAll K) := fun E ρ x y vx vy h H Q rx ry cs p => by
  cases x with
  | int i =>
    cases y with
    | int j => exact .inl ⟨i, j, rx, ry, Post.here (rel := Rl g) p cs rfl⟩
    | _ => exact p.elim
  | str i =>
    cases y with
    | str j =>
      simp only [fAdd] at p
      cases eo : okLen (i.length + j.length) with
      | true => rw [eo, if_pos rfl] at p; exact .inr (.inl ⟨i, j, rx, ry, okLen_line eo, Post.here (rel := Rl g) p cs rfl⟩)
      | false => rw [eo, if_neg Bool.false_ne_true] at p; exact p.elim
    | _ => exact p.elim
  | loc n =>
    cases y with
    | loc m =>
      simp only [fAdd] at p
      cases en : h[n]? with
      | none => rw [en] at p; exact p.elim
      | some o =>
        cases em : h[m]? with
        | none => rw [en, em] at p; cases o <;> exact p.elim
        | some o2 =>
          rw [en, em] at p
          cases o with
          | lst xs =>
            cases o2 with
            | lst ys =>
              simp only at p
              obtain ⟨a, vs, rfl, ea, rv, ha⟩ := cs.lst en rx
              obtain ⟨b, ws, rfl, eb, rw', hb⟩ := cs.lst em ry
              cases eo : okLen (xs.length + ys.length) with
              | true =>
                rw [eo, if_pos rfl] at p
                refine .inr (.inr (.inl ⟨a, b, vs, ws, rfl, rfl, ha, hb, by rw [← Paired.length rv, ← Paired.length rw']; exact okLen_line eo, fun q hq => ?_⟩))
                exact Post.made p cs hq ⟨vs ++ ws, Rls.mono (pre_snoc _ _) (Paired.app rv rw'), upd_same⟩
              | false => rw [eo, if_neg Bool.false_ne_true] at p; exact p.elim
            | _ => exact p.elim
          | tup xs =>
            cases o2 with
            | tup ys =>
              simp only at p
              obtain ⟨a, vs, oa, rfl, ea, rv, _, ha⟩ := cs.tup en rx
              obtain ⟨b, ws, ob, rfl, eb, rw', _, hb⟩ := cs.tup em ry
              cases eo : okLen (xs.length + ys.length) with
              | true =>
                rw [eo, if_pos rfl] at p
                refine .inr (.inr (.inr ⟨a, b, vs, ws, rfl, rfl, .inl (.inr ⟨oa, ha⟩), .inl (.inr ⟨ob, hb⟩), by rw [← Paired.length rv, ← Paired.length rw']; exact okLen_line eo, fun e0 => ?_, fun e0 e1 => ?_, fun e0 e1 q o ho hq => ?_⟩))
                · subst e0
                  cases rv
                  exact Post.here (rel := Rl g) p cs ⟨b, eb, rfl⟩
                · subst e1
                  cases rw'
                  cases rv with
                  | nil => exact absurd rfl e0
                  | cons _ _ => exact Post.here (rel := Rl g) p cs ⟨a, ea, rfl⟩
                · cases rv with
                  | nil => exact absurd rfl e0
                  | cons r1 r2 =>
                    cases rw' with
                    | nil => exact absurd rfl e1
                    | cons r3 r4 => exact Post.made p cs hq ⟨_, o, Rls.mono (pre_snoc _ _) (Paired.app (.cons r1 r2) (.cons r3 r4)), ho, upd_same⟩
              | false => rw [eo, if_neg Bool.false_ne_true] at p; exact p.elim
            | _ => exact p.elim
          | _ => cases o2 <;> exact p.elim
    | _ => exact p.elim
  | _ => cases y <;> exact p.elim
def fMul : F2 := fun x y h => match x, y with
  | .int i, .int j => if decide ((-(2 ^ 64) < i ∧ i < 2 ^ 64) ∨ (-(2 ^ 64) < j ∧ j < 2 ^ 64)) then .ok (.int (i * j)) h else .stuck
  | .loc n, .int k => match h[n]? with
    | some (.lst xs) => if decide (-(2 ^ 63) ≤ k ∧ k < 2 ^ 63) && okLen (xs.length * k.toNat) then newO (.lst (List.replicate k.toNat xs).flatten) h else .stuck
    | _ => .stuck
  | _, _ => .stuck
abbrev rMulAll : R2 := fun x y H Q => rI CMul (fun i j => .int (i * j)) x y H Q ∨ rRep x y H Q
theorem o_mul : OpR X (binaryOp .Mult) rMulAll := OpR.or op_mul op_rep
theorem Rls.flat {ρ : Wd} {us : List U} {vs : List V} (r : Rls g ρ us vs) : ∀ k : Nat, Rls g ρ (List.replicate k us).flatten (List.replicate k vs).flatten
  | 0 => .nil
  | k + 1 => by
    rw [List.replicate_succ, List.replicate_succ, List.flatten_cons, List.flatten_cons]; exact Paired.app r (Rls.flat r k)
theorem s_mul : S2 g fMul rMulAll := fun E ρ x y vx vy h H Q rx ry cs p => by
  cases x with
  | int i =>
    cases y with
    | int j =>
      simp only [fMul] at p
      by_cases hc : (-(2 ^ 64) < i ∧ i < 2 ^ 64) ∨ (-(2 ^ 64) < j ∧ j < 2 ^ 64)
      · rw [if_pos (decide_eq_true hc)] at p
        exact .inl ⟨i, j, rx, ry, hc, Post.here (rel := Rl g) p cs rfl⟩
      · rw [if_neg (by rw [decide_eq_true_eq]; exact hc)] at p
        exact p.elim
    | _ => exact p.elim
  | loc n =>
    cases y with
    | int k =>
      simp only [fMul] at p
      cases en : h[n]? with
      | none => rw [en] at p; exact p.elim
      | some o =>
        rw [en] at p
        cases o with
        | lst xs =>
          simp only at p
          obtain ⟨a, vs, rfl, ea, rv, ha⟩ := cs.lst en rx
          cases eo : (decide (-(2 ^ 63) ≤ k ∧ k < 2 ^ 63) && okLen (xs.length * k.toNat)) with
          | true =>
            rw [eo, if_pos rfl] at p
            rw [Bool.and_eq_true] at eo
            obtain ⟨h1, h2⟩ := of_decide_eq_true eo.1
            refine .inr ⟨a, k, vs, rfl, ry, ha, h1, h2, by rw [← Paired.length rv]; exact okLen_line eo.2, fun q hq => ?_⟩
            exact Post.made p cs hq ⟨_, Rls.mono (pre_snoc _ _) (Rls.flat rv _), upd_same⟩
          | false => rw [eo, if_neg Bool.false_ne_true] at p; exact p.elim
        | _ => exact p.elim
    | _ => exact p.elim
  | _ => cases y <;> exact p.elim

/-! ### == and !=, in and not in: data of any depth -/
def deep : Nat := 40
def fEqB (x y : U) (h : Mh) : Option Bool := match rd h deep x with
  | some d => match rd h deep y with
    | some e => if SeqAt.shaped d && SeqAt.shaped e then some (PyData.eqv d e) else none
    | none => none
  | none => none
def fEq : F2 := fun x y h => match fEqB x y h with
  | some b => .ok (.bl b) h
  | none => .stuck
def fNe : F2 := fun x y h => match fEqB x y h with
  | some b => .ok (.bl (!b)) h
  | none => .stuck
theorem fEqB_dp {K : PySem.W.Frag} (hK : K = g.K) {ρ : Wd} {h : Mh} {H : Hp} (cs : Cs g ρ h H) {x y : U} {vx vy : V} {b : Bool} (rx : Rl g ρ x vx) (ry : Rl g ρ y vy) (e : fEqB x y h = some b) :
    ∃ d e', Dp K H vx d ∧ Dp K H vy e' ∧ SeqAt.shaped d = true ∧ SeqAt.shaped e' = true ∧ PyData.eqv d e' = b := by
  subst hK
  unfold fEqB at e
  cases e1 : rd h deep x with
  | none => rw [e1] at e; cases e
  | some d =>
    cases e2 : rd h deep y with
    | none => rw [e1, e2] at e; cases e
    | some d2 =>
      rw [e1, e2] at e
      simp only at e
      cases es : (SeqAt.shaped d && SeqAt.shaped d2) with
      | true =>
        rw [es, if_pos rfl] at e
        rw [Bool.and_eq_true] at es
        exact ⟨d, d2, rd_dp cs _ _ _ _ rx e1, rd_dp cs _ _ _ _ ry e2, es.1, es.2, Option.some.inj e⟩
      | false => rw [es, if_neg Bool.false_ne_true] at e; cases e
theorem s_eq {K : PySem.W.Frag} (hK : K = g.K := by assumption) : S2 g fEq (rEqD K) := fun E ρ x y vx vy h H Q rx ry cs p => by
  unfold fEq at p
  cases e : fEqB x y h with
  | none => rw [e] at p; exact p.elim
  | some b =>
    rw [e] at p
    obtain ⟨d, d2, h1, h2, s1, s2, eb⟩ := fEqB_dp (K := K) hK cs rx ry e
    exact ⟨d, d2, h1, h2, s1, s2, by rw [eb]; exact Post.here (rel := Rl g) p cs rfl⟩
theorem s_ne {K : PySem.W.Frag} (hK : K = g.K := by assumption) : S2 g fNe (rNeD K) := fun E ρ x y vx vy h H Q rx ry cs p => by
  unfold fNe at p
  cases e : fEqB x y h with
  | none => rw [e] at p; exact p.elim
  | some b =>
    rw [e] at p
    obtain ⟨d, d2, h1, h2, s1, s2, eb⟩ := fEqB_dp (K := K) hK cs rx ry e
    exact ⟨d, d2, h1, h2, s1, s2, by rw [eb]; exact Post.here (rel := Rl g) p cs rfl⟩
def fInB (x y : U) (h : Mh) : Option Bool := match rd h deep x with
  | some d => match rd h deep y with
    | some (.list ds) => if SeqAt.shaped d && SeqAt.shaped (.list ds) then some (ds.any fun z => PyData.eqv z d) else none
    | some (.tuple ds) => if SeqAt.shaped d && SeqAt.shaped (.tuple ds) then some (ds.any fun z => PyData.eqv z d) else none
    | _ => none
  | none => none
def fIn : F2 := fun x y h => match fInB x y h with
  | some b => .ok (.bl b) h
  | none => .stuck
def fNotIn : F2 := fun x y h => match fInB x y h with
  | some b => .ok (.bl (!b)) h
  | none => .stuck
def rInT (K : PySem.W.Frag) (ng : Bool) : R2 := fun x y H Q => ∃ d ds, Dp K H x d ∧ Dp K H y (.tuple ds) ∧ SeqAt.shaped d = true ∧ SeqAt.shaped (.tuple ds) = true ∧ Q (.bl (if ng then !(ds.any fun z => PyData.eqv z d) else ds.any fun z => PyData.eqv z d)) H
theorem o_inT (hu : X.A.units + 65 < cLine) : OpR X (compareOp .In) (rInT X.K false) := by
  intro pins s σ H x y v u Q I rx ry h; obtain ⟨d, ds, hd, he, sd, se, q⟩ := h
  obtain ⟨as, r1⟩ := Dp.reads I d x v hd rx; obtain ⟨bs, r2⟩ := Dp.reads I (.tuple ds) y u he ry
  exact SeqAt.in_tuple_reads r2 r1 (SeqAt.canLay_of_shaped se) (SeqAt.canLay_of_shaped sd) (room_in_shaped sd hu) ⟨.bl _, H, I, rfl, q⟩
theorem o_notInT (hu : X.A.units + 65 < cLine) : OpR X (compareOp .NotIn) (rInT X.K true) := by
  intro pins s σ H x y v u Q I rx ry h; obtain ⟨d, ds, hd, he, sd, se, q⟩ := h
  obtain ⟨as, r1⟩ := Dp.reads I d x v hd rx; obtain ⟨bs, r2⟩ := Dp.reads I (.tuple ds) y u he ry
  exact SeqAt.notIn_tuple_reads r2 r1 (SeqAt.canLay_of_shaped se) (SeqAt.canLay_of_shaped sd) (room_in_shaped sd hu) ⟨.bl _, H, I, rfl, q⟩
abbrev rInAll (K : PySem.W.Frag) : R2 := fun x y H Q => rInD K x y H Q ∨ rInT K false x y H Q
abbrev rNotInAll (K : PySem.W.Frag) : R2 := fun x y H Q => rNotInD K x y H Q ∨ rInT K true x y H Q
theorem o_in (hu : X.A.units + 65 < cLine) : OpR X (compareOp .In) (rInAll X.K) := OpR.or (op_inD hu) (o_inT hu)
theorem o_notin (hu : X.A.units + 65 < cLine) : OpR X (compareOp .NotIn) (rNotInAll X.K) := OpR.or (op_notInD hu) (o_notInT hu)
theorem fInB_dp {K : PySem.W.Frag} (hK : K = g.K) {ρ : Wd} {h : Mh} {H : Hp} (cs : Cs g ρ h H) {x y : U} {vx vy : V} {b : Bool} (rx : Rl g ρ x vx) (ry : Rl g ρ y vy) (e : fInB x y h = some b) :
    ∃ d ds, Dp K H vx d ∧ SeqAt.shaped d = true ∧ (ds.any fun z => PyData.eqv z d) = b ∧ ((Dp K H vy (.list ds) ∧ SeqAt.shaped (.list ds) = true) ∨ (Dp K H vy (.tuple ds) ∧ SeqAt.shaped (.tuple ds) = true)) := by
  subst hK
  unfold fInB at e
  cases e1 : rd h deep x with
  | none => rw [e1] at e; cases e
  | some d =>
    cases e2 : rd h deep y with
    | none => rw [e1, e2] at e; cases e
    | some d2 =>
      rw [e1, e2] at e
      cases d2 with
      | list ds =>
        simp only at e
        cases es : (SeqAt.shaped d && SeqAt.shaped (.list ds)) with
        | true =>
          rw [es, if_pos rfl] at e
          rw [Bool.and_eq_true] at es
          exact ⟨d, ds, rd_dp cs _ _ _ _ rx e1, es.1, Option.some.inj e, .inl ⟨rd_dp cs _ _ _ _ ry e2, es.2⟩⟩
        | false => rw [es, if_neg Bool.false_ne_true] at e; cases e
      | tuple ds =>
        simp only at e
        cases es : (SeqAt.shaped d && SeqAt.shaped (.tuple ds)) with
        | true =>
          rw [es, if_pos rfl] at e
          rw [Bool.and_eq_true] at es
          exact ⟨d, ds, rd_dp cs _ _ _ _ rx e1, es.1, Option.some.inj e, .inr ⟨rd_dp cs _ _ _ _ ry e2, es.2⟩⟩
        | false => rw [es, if_neg Bool.false_ne_true] at e; cases e
      | _ => cases e
theorem s_in {K : PySem.W.Frag} (hK : K = g.K := by assumption) : S2 g fIn (rInAll K) := fun E ρ x y vx vy h H Q rx ry cs p => by
  unfold fIn at p
  cases e : fInB x y h with
  | none => rw [e] at p; exact p.elim
  | some b =>
    rw [e] at p
    obtain ⟨d, ds, h1, s1, eb, k⟩ := fInB_dp (K := K) hK cs rx ry e
    have q : Q (.bl b) H := Post.here (rel := Rl g) p cs rfl
    rcases k with ⟨h2, s2⟩ | ⟨h2, s2⟩
    · exact .inl ⟨d, ds, h1, h2, s1, s2, by rw [eb]; exact q⟩
    · exact .inr ⟨d, ds, h1, h2, s1, s2, by rw [eb]; exact q⟩
theorem s_notin {K : PySem.W.Frag} (hK : K = g.K := by assumption) : S2 g fNotIn (rNotInAll K) := fun E ρ x y vx vy h H Q rx ry cs p => by
  unfold fNotIn at p
  cases e : fInB x y h with
  | none => rw [e] at p; exact p.elim
  | some b =>
    rw [e] at p
    obtain ⟨d, ds, h1, s1, eb, k⟩ := fInB_dp (K := K) hK cs rx ry e
    have q : Q (.bl (!b)) H := Post.here (rel := Rl g) p cs rfl
    rcases k with ⟨h2, s2⟩ | ⟨h2, s2⟩
    · exact .inl ⟨d, ds, h1, h2, s1, s2, by rw [eb]; exact q⟩
    · exact .inr ⟨d, ds, h1, h2, s1, s2, by show Q (.bl (if true = true then !(ds.any fun z => PyData.eqv z d) else _)) H; rw [if_pos rfl, eb]; exact q⟩
end
end Vm

set_option Elab.async false
set_option linter.all false
set_option maxRecDepth 100000
set_option maxHeartbeats 4100000
namespace Vm
open L2 PyProof.Rows PySem PySem.Spec

theorem atI_rel {α β : Type} {F : α → β → Prop} {xs : List α} {ys : List β} {i : Int} {x : α} (r : Paired F xs ys) (e : atI xs i = some x) : ∃ y, atI ys i = some y ∧ F x y := by
  unfold atI at e ⊢
  rw [← Paired.length r]
  cases ei : ixN xs.length i with
  | none => rw [ei] at e; cases e
  | some j =>
    rw [ei] at e
    exact Paired.get r e

/-! ### subscripts -/
def fIx (g : List Int) : F2 := fun x y h => match y with
  | .int i => match x with
    | .loc n => match h[n]? with
      | some (.lst xs) => match atI xs i with
        | some u => .ok u h
        | none => .stuck
      | some (.tup xs) => match atI xs i with
        | some u => .ok u h
        | none => .stuck
      | some (.tpl xs) => match atI xs i with
        | some u => .ok u h
        | none => .stuck
      | _ => .stuck
    | .str z => if okLen z.length then (match atI z.cps.toList i with
      | some c => .ok (.str ⟨#[c]⟩) h
      | none => .stuck) else .stuck
    | .scr => match atI g i with
      | some k => .ok (.int k) h
      | none => .stuck
    | _ => .stuck
  | _ => .stuck
section
variable {X : Cx} {g : Gc}
theorem Cs.sq {ρ : Wd} {h : Mh} {H : Hp} (c : Cs g ρ h H) : SqL g.K H g.sa (g.ns.map V.int) := by
  rcases c.scr with ⟨o, e⟩ | k
  · exact .inl (.inr ⟨o, e⟩)
  · exact .inr k
theorem s_ix : S2 g (fIx g.ns) (rIx g.K) := fun E ρ x y vx vy h H Q rx ry cs p => by
  cases y with
  | int i =>
    cases x with
    | loc n =>
      simp only [fIx] at p
      cases en : h[n]? with
      | none => rw [en] at p; exact p.elim
      | some o =>
        rw [en] at p
        cases o with
        | lst xs =>
          simp only at p
          obtain ⟨a, vs, rfl, ea, rv, ha⟩ := cs.lst en rx
          cases ei : atI xs i with
          | none => rw [ei] at p; exact p.elim
          | some u =>
            rw [ei] at p
            obtain ⟨v, ev, r⟩ := atI_rel rv ei
            exact .inl ⟨a, vs, i, v, rfl, ry, SqL.of ha, ev, Post.here (rel := Rl g) p cs r⟩
        | tup xs =>
          simp only at p
          obtain ⟨a, vs, o, rfl, ea, rv, _, ha⟩ := cs.tup en rx
          cases ei : atI xs i with
          | none => rw [ei] at p; exact p.elim
          | some u =>
            rw [ei] at p
            obtain ⟨v, ev, r⟩ := atI_rel rv ei
            exact .inr (.inl ⟨a, vs, i, v, rfl, ry, .inl (.inr ⟨o, ha⟩), ev, Post.here (rel := Rl g) p cs r⟩)
        | tpl xs =>
          simp only at p
          obtain ⟨a, vs, rfl, ea, rv, ha⟩ := cs.tpl en rx
          cases ei : atI xs i with
          | none => rw [ei] at p; exact p.elim
          | some u =>
            rw [ei] at p
            obtain ⟨v, ev, r⟩ := atI_rel rv ei
            exact .inr (.inl ⟨a, vs, i, v, rfl, ry, SqT.of ha, ev, Post.here (rel := Rl g) p cs r⟩)
        | ins c fs => exact p.elim
        | exc c fs => exact p.elim
        | ded => exact p.elim
    | str z =>
      simp only [fIx] at p
      cases eo : okLen z.length with
      | true =>
        rw [eo, if_pos rfl] at p
        cases ei : atI z.cps.toList i with
        | none => rw [ei] at p; exact p.elim
        | some u =>
          rw [ei] at p
          exact .inr (.inr ⟨z, i, u, rx, ry, okLen_line eo, ei, Post.here (rel := Rl g) p cs rfl⟩)
      | false => rw [eo, if_neg Bool.false_ne_true] at p; exact p.elim
    | scr =>
      simp only [fIx] at p
      cases ei : atI g.ns i with
      | none => rw [ei] at p; exact p.elim
      | some k =>
        rw [ei] at p
        have e2 : atI (g.ns.map V.int) i = some (.int k) := by
          unfold atI at ei ⊢
          rw [List.length_map]
          cases e3 : ixN g.ns.length i with
          | none => rw [e3] at ei; cases ei
          | some j =>
            rw [e3] at ei
            show (g.ns.map V.int)[j]? = some (.int k)
            rw [List.getElem?_map, show g.ns[j]? = some k from ei]
            rfl
        exact .inl ⟨g.sa, _, i, .int k, rx, ry, cs.sq, e2, Post.here (rel := Rl g) p cs rfl⟩
    | _ => exact p.elim
  | _ => exact p.elim
theorem o_ix (hK : X.K = g.K) : IxR X (rIx g.K) := by
  rw [← hK]
  exact ix_seq

/-! ### slices -/
abbrev Mo := Sl → Mh → R (Option Int)
abbrev relO : Wd → Option Int → Option Int → Prop := fun _ a b => a = b
def oN : Mo := fun _ h => .ok none h
def oS (a : Me) : Mo := fun s h => (a s h).bind fun u h1 => match u with
  | .int i => .ok (some i) h1
  | _ => .stuck
def cutU {α : Type} (xs : List α) (lo hi : Option Int) : List α := (xs.drop (HT.sIx xs.length 0 lo)).take (HT.sIx xs.length xs.length hi - HT.sIx xs.length 0 lo)
def fSl (x : U) (lo hi : Option Int) (h : Mh) : R U := match x with
  | .loc n => match h[n]? with
    | some (.lst xs) => newO (.lst (cutU xs lo hi)) h
    | some (.tup xs) => if HT.sIx xs.length 0 lo = 0 ∧ HT.sIx xs.length xs.length hi = xs.length then .ok (.loc n) h else newO (.tup (cutU xs lo hi)) h
    | _ => .stuck
  | _ => .stuck
def mSl (a : Me) (l u : Mo) : Me := fun s h => (a s h).bind fun x h1 => (l s h1).bind fun lo h2 => (u s h2).bind fun hi h3 => fSl x lo hi h3
def TO' (g : Gc) (W : WX) (m : Mo) : TO := fun σ H Q => At g relO m (WE W σ) σ H Q
variable {W : WX} {a b c e : Expr} {A B Cc : Me} {pos p2 : Pos} {lo hi : Option Expr} {l u : Mo}
theorem PO.im {e : Option Expr} {t t' : TO} (h : PO X e t) (i : ∀ σ H Q, t' σ H Q → t σ H Q) : PO X e t' := ⟨fun pins s σ H Q I q => h.run pins s σ H Q I (i σ H Q q)⟩
theorem o_none : PO X none (TO' g W oN) := PO.im po_none fun σ H Q ⟨ρ, s, h, hs, cs, p⟩ => Post.here (rel := relO) p cs rfl
theorem o_some (h : PE X e (T g W A)) : PO X (some e) (TO' g W (oS A)) := by
  refine PO.im (po_some h) fun σ H Q q => At.seq (rel := Rl g) q fun ρ1 x s h1 v H1 hs1 c1 r1 p1 => ?_
  cases x with
  | int i => exact ⟨i, r1, Post.here (rel := relO) p1 c1 rfl⟩
  | _ => exact p1.elim
def rSlX (K : PySem.W.Frag) : V → Option Int → Option Int → Hp → VK → Prop := fun x lo hi H Q => ∃ a xs, x = .ref a ∧ SqT K H a xs ∧
  (HT.sIx xs.length 0 lo = 0 ∧ HT.sIx xs.length xs.length hi = xs.length → Q (.ref a) H) ∧ (¬ (HT.sIx xs.length 0 lo = 0 ∧ HT.sIx xs.length xs.length hi = xs.length) → ∀ p o, o.dict = none → H p = none → Q (.ref p) (upd H p (.frz o (.tup (cutV xs lo hi)))))
theorem sl_tupX : SlR X (rSlX X.K) := by
  intro pins s σ H x v vl vu lo hi sl Q I rx hs pl pu h; obtain ⟨a, xs, rfl, hx, q1, q2⟩ := h
  by_cases hw : HT.sIx xs.length 0 lo = 0 ∧ HT.sIx xs.length xs.length hi = xs.length; · exact sl_tupA pins s σ H _ v vl vu lo hi sl Q I rx hs pl pu ⟨a, xs, rfl, hx, q1, fun n => absurd hw n⟩
  · cases rx
    obtain ⟨its, r, ht, hz⟩ := I.tuple hx; have hlen : its.toArray.size = xs.length := by rw [List.size_toArray]; exact r.length.symm
    refine ⟨"tuple", _, PyProof.Rows.slot_tuple_getitem.lookup, ht.typeIs, ?_⟩; refine HT.getItem_tuple_cut ht hs pl pu (by rw [hlen]; exact hw) ?_ (by rw [hlen]; exact hz)
    rw [hlen]
    exact ⟨.ref s.heap.objs.size, _, tup_laid I ((r.drop (HT.sIx xs.length 0 lo)).take (HT.sIx xs.length xs.length hi - HT.sIx xs.length 0 lo)) (Nat.le_trans (cutV_length xs lo hi) hz), rfl, q2 hw _ _ rfl (I.hok.fresh (Nat.le_refl _))⟩
abbrev rSlAll (K : PySem.W.Frag) : V → Option Int → Option Int → Hp → VK → Prop := fun x lo hi H Q => rSlL K x lo hi H Q ∨ rSlX K x lo hi H Q
theorem sl_all : SlR X (rSlAll X.K) := SlR.or sl_list sl_tupX
theorem cut_rel {ρ : Wd} {xs : List U} {vs : List V} {lo hi : Option Int} (r : Rls g ρ xs vs) : Rls g ρ (cutU xs lo hi) (cutV vs lo hi) := by
  unfold cutU cutV
  rw [← Paired.length r]
  exact Paired.takeP _ (Paired.dropP _ r)
theorem e_slice (he : PE X a (T g W A)) (hl : PO X lo (TO' g W l)) (hu : PO X hi (TO' g W u)) : PE X (.Subscript a (.Slice lo hi none p2) pos) (T g W (mSl A l u)) := by
  refine PE.im (pe_slice sl_all he hl hu) fun σ H Q q => At.seq (rel := Rl g) q fun ρ1 x s h1 v H1 hs1 c1 r1 p1 => ?_
  refine ⟨ρ1, s, h1, hs1, c1, (Post.cut (rel := relO) p1).imp fun o1 H2 ⟨ρ2, o1', h2, e2, c2, r2, p2⟩ => ?_⟩
  cases r2
  refine ⟨ρ2, s, h2, Rsl.mono e2 hs1, c2, (Post.cut (rel := relO) p2).imp fun o2 H3 ⟨ρ3, o2', h3, e3, c3, r3, p3⟩ => ?_⟩
  cases r3
  have r1 : Rl g ρ3 x v := Rl.mono (e2.trans e3) r1
  cases x with
  | loc n =>
    simp only [fSl] at p3
    cases en : h3[n]? with
    | none => rw [en] at p3; exact p3.elim
    | some o =>
      rw [en] at p3
      cases o with
      | lst xs =>
        simp only at p3
        obtain ⟨ad, vs, rfl, ea, rv, ha⟩ := c3.lst en r1
        exact .inl ⟨ad, vs, rfl, SqL.of ha, fun p hp => Post.made p3 c3 hp ⟨_, Rls.mono (pre_snoc _ _) (cut_rel rv), upd_same⟩⟩
      | tup xs =>
        simp only at p3
        obtain ⟨ad, vs, o, rfl, ea, rv, _, ha⟩ := c3.tup en r1
        refine .inr ⟨ad, vs, rfl, .inl (.inr ⟨o, ha⟩), ?_⟩
        rw [← Paired.length rv]
        by_cases hw : HT.sIx xs.length 0 o1 = 0 ∧ HT.sIx xs.length xs.length o2 = xs.length
        · rw [if_pos hw] at p3
          exact ⟨fun _ => Post.here (rel := Rl g) p3 c3 ⟨ad, ea, rfl⟩, fun n => absurd hw n⟩
        · rw [if_neg hw] at p3
          exact ⟨fun n => absurd n hw, fun _ p o ho hp => Post.made p3 c3 hp ⟨_, o, Rls.mono (pre_snoc _ _) (cut_rel rv), ho, upd_same⟩⟩
      | _ => exact p3.elim
  | _ => exact p3.elim

/-! ### built-in functions by values -/
def fLen (ns : List Int) : List U → Mh → R U := fun us h => match us with
  | [.loc n] => match h[n]? with
    | some (.lst xs) => .ok (.int xs.length) h
    | some (.tup xs) => .ok (.int xs.length) h
    | some (.tpl xs) => .ok (.int xs.length) h
    | _ => .stuck
  | [.str z] => if okLen z.length then .ok (.int z.length) h else .stuck
  | [.scr] => .ok (.int ns.length) h
  | _ => .stuck
theorem CallR.or {f : Value} {r r' : List V → Hp → VK → Prop} (h : CallR X f r) (h' : CallR X f r') : CallR X f (fun xs H Q => r xs H Q ∨ r' xs H Q) := fun pins s σ H xs us Q I rx q => q.elim (h pins s σ H xs us Q I rx) (h' pins s σ H xs us Q I rx)
def rLen (K : PySem.W.Frag) : List V → Hp → VK → Prop := fun xs H Q => (∃ p ys, xs = [.ref p] ∧ (SqL K H p ys ∨ SqT K H p ys) ∧ Q (.int ys.length) H) ∨ (∃ z, xs = [.str z] ∧ z.length ≤ sizeLine ∧ Q (.int z.length) H)
theorem k_len (hK : X.K = g.K) : CallR X (.builtin "len") (rLen g.K) := by
  rw [← hK]
  exact CallR.or call_len_seq call_len_str
theorem one_of {ρ : Wd} {x : U} {vs : List V} (r : Rls g ρ [x] vs) : ∃ v, vs = [v] ∧ Rl g ρ x v := by
  cases r with
  | cons r1 r2 =>
    cases r2
    exact ⟨_, rfl, r1⟩
theorem two_of {ρ : Wd} {x y : U} {vs : List V} (r : Rls g ρ [x, y] vs) : ∃ v w, vs = [v, w] ∧ Rl g ρ x v ∧ Rl g ρ y w := by
  cases r with
  | cons r1 r2 =>
    obtain ⟨w, rfl, r3⟩ := one_of r2
    exact ⟨_, w, rfl, r1, r3⟩
theorem s_len : SL g (fLen g.ns) (rLen g.K) := fun E ρ xs vs h H Q r cs p => by
  unfold fLen at p
  split at p
  · rename_i n
    obtain ⟨v, rfl, r1⟩ := one_of r
    split at p
    · rename_i xs en
      obtain ⟨a, vs, rfl, ea, rv, ha⟩ := cs.lst en r1
      exact .inl ⟨a, vs, rfl, .inl (SqL.of ha), by rw [← Paired.length rv]; exact Post.here (rel := Rl g) p cs rfl⟩
    · rename_i xs en
      obtain ⟨a, vs, o, rfl, ea, rv, _, ha⟩ := cs.tup en r1
      exact .inl ⟨a, vs, rfl, .inr (.inl (.inr ⟨o, ha⟩)), by rw [← Paired.length rv]; exact Post.here (rel := Rl g) p cs rfl⟩
    · rename_i xs en
      obtain ⟨a, vs, rfl, ea, rv, ha⟩ := cs.tpl en r1
      exact .inl ⟨a, vs, rfl, .inr (SqT.of ha), by rw [← Paired.length rv]; exact Post.here (rel := Rl g) p cs rfl⟩
    · exact p.elim
  · rename_i z
    obtain ⟨v, rfl, r1⟩ := one_of r
    cases eo : okLen z.length with
    | true =>
      rw [eo, if_pos rfl] at p
      exact .inr ⟨z, by rw [r1], okLen_line eo, Post.here (rel := Rl g) p cs rfl⟩
    | false => rw [eo, if_neg Bool.false_ne_true] at p; exact p.elim
  · obtain ⟨v, rfl, r1⟩ := one_of r
    exact .inl ⟨g.sa, g.ns.map V.int, by rw [r1], .inl cs.sq, by rw [List.length_map]; exact Post.here (rel := Rl g) p cs rfl⟩
  · exact p.elim
def fAbs : List U → Mh → R U := fun us h => match us with
  | [.int i] => .ok (.int (if i < 0 then -i else i)) h
  | _ => .stuck
theorem s_abs : SL g fAbs (fun xs H Q => ∃ i, xs = [.int i] ∧ Q (.int (if i < 0 then -i else i)) H) := fun E ρ xs vs h H Q r cs p => by
  unfold fAbs at p
  split at p
  · obtain ⟨v, rfl, r1⟩ := one_of r
    exact ⟨_, by rw [r1], Post.here (rel := Rl g) p cs rfl⟩
  · exact p.elim
def fMax2 : List U → Mh → R U := fun us h => match us with
  | [.int i, .int j] => .ok (.int (if j > i then j else i)) h
  | _ => .stuck
theorem s_max2 : SL g fMax2 (fun xs H Q => ∃ i j, xs = [.int i, .int j] ∧ Q (.int (if j > i then j else i)) H) := fun E ρ xs vs h H Q r cs p => by
  unfold fMax2 at p
  split at p
  · obtain ⟨v, w, rfl, r1, r2⟩ := two_of r
    exact ⟨_, _, by rw [r1, r2], Post.here (rel := Rl g) p cs rfl⟩
  · exact p.elim
def fMin2 : List U → Mh → R U := fun us h => match us with
  | [.int i, .int j] => .ok (.int (if j < i then j else i)) h
  | _ => .stuck
theorem s_min2 : SL g fMin2 (fun xs H Q => ∃ i j, xs = [.int i, .int j] ∧ Q (.int (if j < i then j else i)) H) := fun E ρ xs vs h H Q r cs p => by
  unfold fMin2 at p
  split at p
  · obtain ⟨v, w, rfl, r1, r2⟩ := two_of r
    exact ⟨_, _, by rw [r1, r2], Post.here (rel := Rl g) p cs rfl⟩
  · exact p.elim
def fInt : List U → Mh → R U := fun us h => match us with
  | [.int i] => .ok (.int i) h
  | [.bl k] => .ok (.int (if k then 1 else 0)) h
  | _ => .stuck
theorem s_int : SL g fInt (fun xs H Q => (∃ i, xs = [.int i] ∧ Q (.int i) H) ∨ ∃ k, xs = [.bl k] ∧ Q (.int (if k then 1 else 0)) H) := fun E ρ xs vs h H Q r cs p => by
  unfold fInt at p
  split at p
  · obtain ⟨v, rfl, r1⟩ := one_of r
    exact .inl ⟨_, by rw [r1], Post.here (rel := Rl g) p cs rfl⟩
  · obtain ⟨v, rfl, r1⟩ := one_of r
    exact .inr ⟨_, by rw [r1], Post.here (rel := Rl g) p cs rfl⟩
  · exact p.elim
/-- the bools of a list -/
def blsOf : List U → Option (List Bool)
  | [] => some []
  | .bl b :: r => match blsOf r with
    | some bs => some (b :: bs)
    | none => none
  | _ => none
theorem bls_rel {ρ : Wd} : ∀ {xs : List U} {vs : List V} {bs : List Bool}, Rls g ρ xs vs → blsOf xs = some bs → vs = bs.map V.bl
  | [], _, _, .nil, e => by
    unfold blsOf at e
    cases e
    rfl
  | x :: xs, _, bs, .cons r rs, e => by
    cases x with
    | bl b =>
      unfold blsOf at e
      cases e1 : blsOf xs with
      | none => rw [e1] at e; cases e
      | some bt =>
        rw [e1] at e
        cases e
        rw [bls_rel rs e1, r]
        rfl
    | _ => unfold blsOf at e; cases e
def fAll : List U → Mh → R U := fun us h => match us with
  | [.loc n] => match h[n]? with
    | some (.lst xs) => match blsOf xs with
      | some bs => .ok (.bl (bs.all id)) h
      | none => .stuck
    | _ => .stuck
  | _ => .stuck
def fAny : List U → Mh → R U := fun us h => match us with
  | [.loc n] => match h[n]? with
    | some (.lst xs) => match blsOf xs with
      | some bs => .ok (.bl (bs.any id)) h
      | none => .stuck
    | _ => .stuck
  | _ => .stuck
theorem s_all {K : PySem.W.Frag} : SL g fAll (rAll K) := fun E ρ xs vs h H Q r cs p => by
  unfold fAll at p
  split at p
  · obtain ⟨v, rfl, r1⟩ := one_of r
    split at p
    · rename_i xs en
      obtain ⟨a, vs, rfl, ea, rv, ha⟩ := cs.lst en r1
      split at p
      · rename_i bs eb
        have := bls_rel rv eb
        subst this
        exact ⟨a, bs, rfl, SqL.of ha, Post.here (rel := Rl g) p cs rfl⟩
      · exact p.elim
    · exact p.elim
  · exact p.elim
theorem s_any {K : PySem.W.Frag} : SL g fAny (rAny K) := fun E ρ xs vs h H Q r cs p => by
  unfold fAny at p
  split at p
  · obtain ⟨v, rfl, r1⟩ := one_of r
    split at p
    · rename_i xs en
      obtain ⟨a, vs, rfl, ea, rv, ha⟩ := cs.lst en r1
      split at p
      · rename_i bs eb
        have := bls_rel rv eb
        subst this
        exact ⟨a, bs, rfl, SqL.of ha, Post.here (rel := Rl g) p cs rfl⟩
      · exact p.elim
    · exact p.elim
  · exact p.elim
/-- tuple(x), list(x) of a list or a tuple -/
def fTup : List U → Mh → R U := fun us h => match us with
  | [.loc n] => match h[n]? with
    | some (.lst xs) => newO (.tup xs) h
    | some (.tup _) => .ok (.loc n) h
    | _ => .stuck
  | _ => .stuck
def fLst : List U → Mh → R U := fun us h => match us with
  | [.loc n] => match h[n]? with
    | some (.lst xs) => newO (.lst xs) h
    | some (.tup xs) => newO (.lst xs) h
    | _ => .stuck
  | _ => .stuck
def rTupX (K : PySem.W.Frag) : List V → Hp → VK → Prop := fun xs H Q => ∃ p ys, xs = [.ref p] ∧ ((SqL K H p ys ∧ ∀ l o, o.dict = none → H l = none → Q (.ref l) (upd H l (.frz o (.tup ys)))) ∨ (SqT K H p ys ∧ Q (.ref p) H))
theorem call_tupX : CallR X (.type "tuple") (rTupX X.K) := by
  intro pins s σ H xs us Q I r h; obtain ⟨p, ys, rfl, h⟩ := h
  obtain ⟨u, rfl, rx⟩ := vals1 r; cases rx; rcases h with ⟨hq, q⟩ | ⟨hq, q⟩
  · obtain ⟨its, r', pl, hz⟩ := I.list hq; have hlen := r'.length
    refine call_tuple_list pl.isList (fun h' kp => ?_) (by simp only [List.size_toArray] <;> omega); have I1 : Inv X pins σ H { s with heap := h' } := I.kept (t' := s.toks) kp
    exact ⟨.ref h'.objs.size, _, tup_laid I1 r' hz, rfl, q _ _ rfl (I1.hok.fresh (Nat.le_refl _))⟩
  · obtain ⟨its, r', pl, hz⟩ := I.tuple hq; exact call_tuple_same pl ⟨.ref p, H, I, rfl, q⟩
theorem s_tup {K : PySem.W.Frag} : SL g fTup (rTupX K) := fun E ρ xs vs h H Q r cs p => by
  unfold fTup at p
  split at p
  · obtain ⟨v, rfl, r1⟩ := one_of r
    split at p
    · rename_i xs en
      obtain ⟨a, vs, rfl, ea, rv, ha⟩ := cs.lst en r1
      exact ⟨a, vs, rfl, .inl ⟨SqL.of ha, fun l o ho hl => Post.made p cs hl ⟨vs, o, Rls.mono (pre_snoc _ _) rv, ho, upd_same⟩⟩⟩
    · rename_i xs en
      obtain ⟨a, vs, o, rfl, ea, rv, _, ha⟩ := cs.tup en r1
      exact ⟨a, vs, rfl, .inr ⟨.inl (.inr ⟨o, ha⟩), Post.here (rel := Rl g) p cs ⟨a, ea, rfl⟩⟩⟩
    · exact p.elim
  · exact p.elim
def rLst (K : PySem.W.Frag) : List V → Hp → VK → Prop := fun xs H Q => ∃ p ys, xs = [.ref p] ∧ (SqL K H p ys ∨ SqT K H p ys) ∧ ∀ l, H l = none → Q (.ref l) (upd H l (.lst ys))
theorem k_lst : CallR X (.type "list") (rLst X.K) := call_list_of
theorem s_lst {K : PySem.W.Frag} : SL g fLst (rLst K) := fun E ρ xs vs h H Q r cs p => by
  unfold fLst at p
  split at p
  · obtain ⟨v, rfl, r1⟩ := one_of r
    split at p
    · rename_i xs en
      obtain ⟨a, vs, rfl, ea, rv, ha⟩ := cs.lst en r1
      exact ⟨a, vs, rfl, .inl (SqL.of ha), fun l hl => Post.made p cs hl ⟨vs, Rls.mono (pre_snoc _ _) rv, upd_same⟩⟩
    · rename_i xs en
      obtain ⟨a, vs, o, rfl, ea, rv, _, ha⟩ := cs.tup en r1
      exact ⟨a, vs, rfl, .inr (.inl (.inr ⟨o, ha⟩)), fun l hl => Post.made p cs hl ⟨vs, Rls.mono (pre_snoc _ _) rv, upd_same⟩⟩
    · exact p.elim
  · exact p.elim

/-! ### isinstance of a built-in class -/
def tyU (h : Mh) : U → Option String
  | .non => some "NoneType"
  | .bl _ => some "bool"
  | .int _ => some "int"
  | .str _ => some "str"
  | .loc n => match h[n]? with
    | some (.lst _) => some "list" | some (.tup _) => some "tuple"
    | some (.tpl _) => some "tuple"
    | _ => none
  | .scr => none
  | .exn => none
  | .dat (.list _) => some "list"
  | .dat (.tuple _) => some "tuple"
  | .dat _ => none
  | .obj _ _ => none
  | .pr _ => none
def fIsi (T : String) (u : U) (h : Mh) : R U := match tyU h u with
  | some t => match kitB t T with
    | some b => .ok (.bl b) h
    | none => .stuck
  | none => .stuck
theorem tyU_ok {ρ : Wd} {h : Mh} {H : Hp} (cs : Cs g ρ h H) {u : U} {v : V} {t : String} (r : Rl g ρ u v) (e : tyU h u = some t) : TyX g.K H v (.type t) := by
  cases u with
  | obj c fs => cases e
  | pr ds => cases e
  | dat d =>
    cases d with
    | list ds =>
      cases e
      cases r.2 with
      | lst hs _ =>
        exact .base (.lst (cs.fzH _ _ hs))
    | tuple ds =>
      cases e
      cases r.2 with
      | tup hs _ =>
        rcases hs with ⟨o, hs, _⟩ | ⟨o, its, n, hk, hc, _⟩
        · exact .fTuple (cs.fzH _ _ hs)
        · exact .kTuple hk hc
    | _ => cases e
  | non => cases e; cases r; exact .base .non
  | bl b => cases e; cases r; exact .base (.bl b)
  | int b => cases e; cases r; exact .base (.int b)
  | str b => cases e; cases r; exact .base (.str b)
  | scr => cases e
  | exn => cases e
  | loc n =>
    simp only [tyU] at e
    split at e
    · rename_i xs en
      cases e
      obtain ⟨a, vs, rfl, ea, rv, ha⟩ := cs.lst en r
      exact .base (.lst ha)
    · rename_i xs en
      cases e
      obtain ⟨a, vs, o, rfl, ea, rv, _, ha⟩ := cs.tup en r
      exact .fTuple ha
    · rename_i xs en
      cases e
      obtain ⟨a, vs, rfl, ea, rv, ha⟩ := cs.tpl en r
      exact .base (.tup ha)
    · cases e
/-- isinstance(e, T) -/
theorem e_isi {T : String} {p pc : Pos} {x : Str} (hK : X.K = g.K := by assumption) (hg : Gl X "isinstance") (hm : X.mg "isinstance" = none) (hgT : Gl X x) (hmT : X.mg x = none) (hv : bootBuiltins x = some (.type T)) (he : PE X e (Vm.T g W A))
    (hn : x ≠ "__name__" := by decide) (hdb : (x == ("__debug__" : Str)) = false := by decide)
    (hst : starEach [e, .Name x pc] X.env = (false, eval e X.env) :: starEach [.Name x pc] X.env := by rfl) (hst2 : starEach [Expr.Name x pc] X.env = (false, eval (.Name x pc) X.env) :: starEach [] X.env := by rfl)
    (hpl : (backTo pos (starEach [Expr.Name x pc] X.env)).any (·.1) = false := by rfl) :
    PE X (.Call (.Name "isinstance" p) [e, .Name x pc] [] pos) (Vm.T g W (m1 (fIsi T) A)) := by
  have hc : PE X (.Name x pc) (tC (.ty T)) := pe_bltn hgT hmT hv rfl hn hdb
  refine PE.im (pe_callB call_isi hg hm (by decide +kernel) (pa_cons he (pa_cons hc pa_nil hst2) hst) (by decide) (by decide) hst hpl) fun σ H Q q => ?_
  refine At.seq (rel := Rl g) q fun ρ1 u s h1 v H1 hs1 c1 r1 p1 => ?_
  unfold fIsi at p1
  cases e1 : tyU h1 u with
  | none => rw [e1] at p1; exact p1.elim
  | some t =>
    rw [e1] at p1
    simp only at p1
    cases e2 : kitB t T with
    | none => rw [e2] at p1; exact p1.elim
    | some k =>
      rw [e2] at p1
      exact ⟨v, .ty T, .type t, .type T, k, rfl, .ty T, by rw [hK]; exact tyU_ok c1 r1 e1, kit_ty e2, Post.here (rel := Rl g) p1 c1 rfl⟩
end
end Vm

set_option Elab.async false
set_option linter.all false
set_option maxRecDepth 100000
set_option maxHeartbeats 4100000
namespace Vm
open L2 PyProof.Rows PySem PySem.Spec
/-! ### methods of built-in types -/
abbrev Fm := U → List U → Mh → R U
def mMt (f : Fm) (o : Me) (a : Ml) : Me := fun s h => (o s h).bind fun x h1 => (a s h1).bind fun xs h2 => f x xs h2
def SMt (g : Gc) (K : PySem.W.Frag) (T : String) (f : Fm) (r : V → List V → Hp → VK → Prop) : Prop :=
  ∀ E ρ x xs vx vs h H Q, Rl g ρ x vx → Rls g ρ xs vs → Cs g ρ h H → Post g (Rl g) ρ (f x xs h) Q E → r vx vs H Q
/-- the receiver's kind, ahead of the arguments -/
def isLst (u : U) (h : Mh) : Bool := match u with
  | .loc n => match h[n]? with
    | some (.lst _) => true
    | _ => false
  | _ => false
def mMtL (f : Fm) (o : Me) (a : Ml) : Me := fun s h => (o s h).bind fun x h1 => if isLst x h1 then ((a s h1).bind fun xs h2 => f x xs h2) else .stuck
section
variable {X : Cx} {g : Gc} {W : WX} {A : Me} {L : Ml} {o e : Expr} {es : List Expr} {name : Str} {apos cpos : Pos} {id : String} {f : Fm} {r : V → List V → Hp → VK → Prop}
theorem e_mtL (slot : Slot "list" name id) (hty : typeOf (.builtin id) = pure (.type "method_descriptor")) (hm : MtR X id r) (hs : SMt g X.K "list" f r) (ho : PE X o (T g W A)) (ha : PA X (e :: es) (TL g W L)) (hbase : attributeBase o name X.env (eval o X.env) = eval o X.env := by rfl) (hfew : ((backTo cpos (starEach (e :: es) X.env)).all (fun x => !x.1) && (backToKw cpos (keywordEach [] X.env)).all (fun x => x.1.isSome) && decide ((e :: es).length + ([] : List Keyword).length + (if ([] : List Keyword).isEmpty then 0 else 1) < 30)) = true := by rfl)
    (hline : (apos.endLine == cpos.line) = true := by rfl) (hss : starEach (e :: es) X.env = (false, eval e X.env) :: starEach es X.env := by rfl) (hplain : (backTo cpos (starEach es X.env)).any (·.1) = false := by rfl) :
    PE X (.Call (.Attribute o name apos) (e :: es) [] cpos) (T g W (mMtL f A L)) := by
  refine PE.im (pe_bm PySem.F.plainAttrs_list slot hty hm ho ha hbase hfew hline hss hplain) fun σ H Q q => At.seq (rel := Rl g) q fun ρ1 x s h1 v H1 hs1 c1 r1 p1 => ?_
  cases el : isLst x h1 with
  | false => rw [el, if_neg Bool.false_ne_true] at p1; exact p1.elim
  | true =>
    rw [el, if_pos rfl] at p1
    unfold isLst at el
    split at el
    · rename_i n
      split at el
      · rename_i xs en
        obtain ⟨a, vs, rfl, ea, rv, ha⟩ := c1.lst en r1
        refine ⟨.inl ⟨rfl, vs, SqL.of ha⟩, ρ1, s, h1, hs1, c1, (Post.cut (rel := Rls g) p1).imp fun ws H2 ⟨ρ2, us, h2, e2, c2, r2, p2⟩ => ?_⟩
        exact hs _ ρ2 (.loc n) us _ ws h2 H2 Q (Rl.mono e2 r1) r2 c2 p2
      · cases el
    · cases el
def fAppend : Fm := fun x us h => match x, us with
  | .loc n, [u] => match h[n]? with
    | some (.lst xs) => if okLen xs.length then .ok .non (h.set n (.lst (xs ++ [u]))) else .stuck
    | _ => .stuck
  | _, _ => .stuck
theorem s_append {K : PySem.W.Frag} : SMt g K "list" fAppend rAppend := fun E ρ x xs vx vs h H Q rx rs cs p => by
  unfold fAppend at p
  split at p
  · rename_i n u
    obtain ⟨v, rfl, r1⟩ := one_of rs
    split at p
    · rename_i xs en
      obtain ⟨a, vs, rfl, ea, rv, ha⟩ := cs.lst en rx
      cases eo : okLen xs.length with
      | true =>
        rw [eo, if_pos rfl] at p
        refine ⟨a, vs, v, rfl, rfl, ha, ?_, ?_⟩
        · rw [← Paired.length rv]
          have := of_decide_eq_true eo
          rw [sizeLine_eq]
          omega
        · exact Post.here (rel := Rl g) p (cs.put (o := .lst (xs ++ [u])) ea (nfL ha) ⟨vs ++ [v], Paired.app rv (.cons r1 .nil), upd_same⟩ (cs.live en ea)) rfl
      | false => rw [eo, if_neg Bool.false_ne_true] at p; exact p.elim
    · exact p.elim
  · exact p.elim
theorem mtR_append : MtR X "list.append" rAppend := mt_append
theorem e_append (ho : PE X o (T g W A)) (ha : PA X (e :: es) (TL g W L))
    (hbase : attributeBase o "append" X.env (eval o X.env) = eval o X.env := by rfl) (hfew : ((backTo cpos (starEach (e :: es) X.env)).all (fun x => !x.1) && (backToKw cpos (keywordEach [] X.env)).all (fun x => x.1.isSome) && decide ((e :: es).length + ([] : List Keyword).length + (if ([] : List Keyword).isEmpty then 0 else 1) < 30)) = true := by rfl)
    (hline : (apos.endLine == cpos.line) = true := by rfl) (hss : starEach (e :: es) X.env = (false, eval e X.env) :: starEach es X.env := by rfl) (hplain : (backTo cpos (starEach es X.env)).any (·.1) = false := by rfl) :
    PE X (.Call (.Attribute o "append" apos) (e :: es) [] cpos) (T g W (mMtL fAppend A L)) := e_mtL PySem.F.slot_list_append PySem.F.type_list_append mtR_append s_append ho ha hbase hfew hline hss hplain
/-- the first place of an equal one -/
def firstAt (d : PyData) : List PyData → Nat → Option Nat
  | [], _ => none
  | z :: zs, j => if PyData.eqv z d then some j else firstAt d zs (j + 1)
theorem firstAt_ok {d : PyData} : ∀ {zs : List PyData} {k j : Nat}, firstAt d zs k = some j → k ≤ j ∧ ∃ z, zs[j - k]? = some z ∧ PyData.eqv z d = true ∧ ∀ (m : Nat) (z' : PyData), m < j - k → zs[m]? = some z' → PyData.eqv z' d = false
  | [], _, _, e => by unfold firstAt at e; cases e
  | z :: zs, k, j, e => by
    unfold firstAt at e
    cases ez : PyData.eqv z d with
    | true =>
      rw [ez, if_pos rfl] at e
      cases e
      refine ⟨Nat.le_refl _, z, by rw [Nat.sub_self]; rfl, ez, fun m z' hm => by rw [Nat.sub_self] at hm; cases hm⟩
    | false =>
      rw [ez, if_neg Bool.false_ne_true] at e
      obtain ⟨h1, z2, h2, h3, h4⟩ := firstAt_ok e
      have e1 : j - k = (j - (k + 1)) + 1 := by omega
      refine ⟨by omega, z2, by rw [e1]; exact h2, h3, fun m z' hm hz => ?_⟩
      cases m with
      | zero =>
        have : z = z' := Option.some.inj hz
        rw [← this]
        exact ez
      | succ m => exact h4 m z' (by omega) hz
def fIndex : Fm := fun x us h => match us with
  | [u] => match rd h deep u with
    | some d => match rd h deep x with
      | some (.list ds) => if SeqAt.shaped (.list ds) && SeqAt.shaped d then (match firstAt d ds 0 with
        | some j => .ok (.int (j : Nat)) h
        | none => .stuck) else .stuck
      | _ => .stuck
    | none => .stuck
  | _ => .stuck
theorem s_index {K : PySem.W.Frag} (hK : K = g.K := by assumption) : SMt g K "list" fIndex (rIndexD K) := fun E ρ x xs vx vs h H Q rx rs cs p => by
  subst hK
  unfold fIndex at p
  split at p
  · rename_i u
    obtain ⟨v, rfl, r1⟩ := one_of rs
    split at p
    · rename_i d ed
      split at p
      · rename_i ds el
        split at p
        · rename_i es
          rw [Bool.and_eq_true] at es
          split at p
          · rename_i j ej
            obtain ⟨_, z, hz, hzd, hno⟩ := firstAt_ok ej
            have dl := rd_dp cs _ _ _ _ rx el
            cases dl with
            | lst hs ha => exact ⟨_, v, d, ds, j, z, rfl, rfl, .lst hs ha, rd_dp cs _ _ _ _ r1 ed, es.1, es.2, hz, hzd, hno, Post.here (rel := Rl g) p cs rfl⟩
          · exact p.elim
        · exact p.elim
      · exact p.elim
    · exact p.elim
  · exact p.elim
theorem e_index (hK : X.K = g.K := by assumption) (hu : X.A.units + 65 < cLine) (ho : PE X o (T g W A)) (ha : PA X (e :: es) (TL g W L))
    (hbase : attributeBase o "index" X.env (eval o X.env) = eval o X.env := by rfl) (hfew : ((backTo cpos (starEach (e :: es) X.env)).all (fun x => !x.1) && (backToKw cpos (keywordEach [] X.env)).all (fun x => x.1.isSome) && decide ((e :: es).length + ([] : List Keyword).length + (if ([] : List Keyword).isEmpty then 0 else 1) < 30)) = true := by rfl)
    (hline : (apos.endLine == cpos.line) = true := by rfl) (hss : starEach (e :: es) X.env = (false, eval e X.env) :: starEach es X.env := by rfl) (hplain : (backTo cpos (starEach es X.env)).any (·.1) = false := by rfl) :
    PE X (.Call (.Attribute o "index" apos) (e :: es) [] cpos) (T g W (mMtL fIndex A L)) := e_mtL PySem.F.slot_list_index PySem.F.type_list_index (mt_indexD hu) s_index ho ha hbase hfew hline hss hplain

/-! ### is None -/
def fIsN : F2 := fun x y h => match y with
  | .non => match x with
    | .non => .ok (.bl true) h
    | _ => .ok (.bl false) h
  | _ => .stuck
def fNotN : F2 := fun x y h => match y with
  | .non => match x with
    | .non => .ok (.bl false) h
    | _ => .ok (.bl true) h
  | _ => .stuck
theorem non_iff {ρ : Wd} {x : U} {v : V} (r : Rl g ρ x v) : decide (v = .non) = (match x with | .non => true | _ => false) := by
  cases x with
  | non => cases r; rfl
  | bl b => cases r; rfl
  | int b => cases r; rfl
  | str b => cases r; rfl
  | loc n => obtain ⟨a, _, rfl⟩ := r; rfl
  | scr => cases r; rfl
  | exn => obtain ⟨a, _, _, _, rfl⟩ := r; rfl
  | dat d =>
    obtain ⟨r1, r2⟩ := r
    cases d with
    | list ds => cases r2; rfl
    | tuple ds => cases r2; rfl
    | _ => cases r1
  | obj c fs => cases r; rfl
  | pr ds => obtain ⟨a, vs, rfl, _⟩ := r; rfl
theorem s_isN : S2 g fIsN (fun x y H Q => y = .non ∧ Q (.bl (decide (x = .non))) H) := fun E ρ x y vx vy h H Q rx ry cs p => by
  cases y with
  | non =>
    refine ⟨ry, ?_⟩
    rw [non_iff rx]
    cases x <;> exact Post.here (rel := Rl g) p cs rfl
  | _ => exact p.elim
theorem s_notN : S2 g fNotN (fun x y H Q => y = .non ∧ Q (.bl (!decide (x = .non))) H) := fun E ρ x y vx vy h H Q rx ry cs p => by
  cases y with
  | non =>
    refine ⟨ry, ?_⟩
    rw [non_iff rx]
    cases x <;> exact Post.here (rel := Rl g) p cs rfl
  | _ => exact p.elim
end
end Vm

set_option Elab.async false
set_option linter.all false
set_option maxRecDepth 100000
set_option maxHeartbeats 4100000
namespace Vm
open L2 PyProof.Rows PySem PySem.Spec
/-! ### chains, minus, pairs stored, items stored, zip, enumerate -/
def mChain (f f' : F2) (a b c : Me) : Me := fun s h => (a s h).bind fun x h1 => (b s h1).bind fun y h2 => (f x y h2).bind fun z h3 => match z with
  | .bl true => (c s h3).bind fun w h4 => f' y w h4
  | .bl false => .ok (.bl false) h3
  | _ => .stuck
/-- an operation that changes nothing -/
def Pure2 (f : F2) : Prop := ∀ x y h z h', f x y h = .ok z h' → h' = h
section
variable {X : Cx} {g : Gc} {W : WX} {a b c e : Expr} {A B Cc : Me} {pos : Pos}
/-- by values, with what is left -/
def S2k (g : Gc) (f : F2) (r : R2) : Prop := ∀ (E : XK) ρ x y vx vy h H (Q : VK), Rl g ρ x vx → Rl g ρ y vy → Cs g ρ h H → Post g (Rl g) ρ (f x y h) Q E → r vx vy H Q
theorem chain_read {f f' : F2} {r r' : R2} (hs : S2 g f r) (hs' : S2 g f' r') {σ : L2.St} {H : Hp} {Q : VK} (q : At g (Rl g) (mChain f f' A B Cc) (WE W σ) σ H Q) : tChain r r' (T g W A) (T g W B) (T g W Cc) σ H Q := by
  refine At.seq (rel := Rl g) q fun ρ1 x s h1 v H1 hs1 c1 r1 p1 => ?_
  refine ⟨ρ1, s, h1, hs1, c1, (Post.cut (rel := Rl g) p1).imp fun w H2 ⟨ρ2, y, h2, e2, c2, r2, p2⟩ => ?_⟩
  refine hs _ ρ2 x y v w h2 H2 _ (Rl.mono e2 r1) r2 c2 ((Post.cut (rel := Rl g) p2).imp fun z H3 ⟨ρ3, k, h3, e3, c3, r3, p3⟩ => ?_)
  cases k with
  | bl k =>
    cases k with
    | true =>
      refine ⟨true, r3, ?_⟩
      rw [if_pos rfl]
      refine ⟨ρ3, s, h3, Rsl.mono (e2.trans e3) hs1, c3, (Post.cut (rel := Rl g) p3).imp fun t H4 ⟨ρ4, u, h4, e4, c4, r4, p4⟩ => ?_⟩
      exact hs' _ ρ4 y u w t h4 H4 Q (Rl.mono (e3.trans e4) r2) r4 c4 p4
    | false =>
      refine ⟨false, r3, ?_⟩
      rw [if_neg Bool.false_ne_true]; exact Post.here (rel := Rl g) p3 c3 rfl
  | _ => exact p3.elim
theorem e_chain {op op' : CmpOp} {f f' : F2} {r r' : R2} (ho : OpR X (compareOp op) r) (hs : S2 g f r) (ho' : OpR X (compareOp op') r') (hs' : S2 g f' r') (ha : PE X a (T g W A)) (hb : PE X b (T g W B)) (hc : PE X c (T g W Cc))
    (hm : lastMarks [op, op'] [b, c] = false := by with_unfolding_all rfl) : PE X (.Compare a [op, op'] [b, c] pos) (T g W (mChain f f' A B Cc)) :=
  PE.im (pe_chain ho ho' ha hb hc hm) fun _ _ _ q => chain_read hs hs' q
theorem t_chain {op op' : CmpOp} {f f' : F2} {r r' : R2} (ho : OpR X (compareOp op) r) (hs : S2 g f r) (ho' : OpR X (compareOp op') r') (hs' : S2 g f' r') (ha : PE X a (T g W A)) (hb : PE X b (T g W B)) (hc : PE X c (T g W Cc))
    (hm : lastMarks [op, op'] [b, c] = false := by with_unfolding_all rfl) : PT X (.Compare a [op, op'] [b, c] pos) (TB g W (bV (mChain f f' A B Cc))) := by
  refine PT.im (pt_chain ho ho' ha hb hc hm) fun σ H Q q => chain_read hs hs' ?_
  refine At.seq (rel := Rl g) (m := mChain f f' A B Cc) (k := fun x _ h1 => asB x h1) q fun ρ1 x s h1 v H1 hs1 c1 r1 p1 => ?_
  cases x with
  | bl k => exact ⟨k, r1, Post.here (rel := relB) p1 c1 rfl⟩
  | _ => exact p1.elim
/-- -i -/
def fNeg : U → Mh → R U := fun x h => match x with
  | .int i => .ok (.int (-i)) h
  | _ => .stuck
theorem s_neg : S1 g fNeg (rU fun i => .int (-i)) := fun E ρ x vx h H Q r cs p => by
  cases x with
  | int i => exact ⟨i, r, Post.here (rel := Rl g) p cs rfl⟩
  | _ => exact p.elim
/-- strings in order -/
def fLeS : F2 := fun x y h => match x, y with
  | .str i, .str j => .ok (.bl (!decide (j.cps.toList < i.cps.toList))) h
  | _, _ => .stuck
theorem s_leS : S2 g fLeS (fun x y H Q => ∃ i j, x = .str i ∧ y = .str j ∧ Q (.bl (!decide (j.cps.toList < i.cps.toList))) H) := fun E ρ x y vx vy h H Q rx ry cs p => by
  cases x with
  | str i =>
    cases y with
    | str j => exact ⟨i, j, rx, ry, Post.here (rel := Rl g) p cs rfl⟩
    | _ => exact p.elim
  | _ => cases y <;> exact p.elim
/-- a, b = x, y -/
def sPar (i j : Nat) (L : Ml) : Ms := fun s h => (L s h).bindS s fun us h1 => match us with
  | [u, w] => .nx ((s.set i (some u)).set j (some w)) h1
  | _ => .stuck
theorem s_par {i j : Nat} {x y : Str} {L : Ml} {px py pt : Pos} {kt k2 pt2} (hc : X.calm = true) (hN : X.N.Nodup) (ha : PA X [a, b] (TL g W L)) (hi : X.N[i]? = some x := by rfl) (hj : X.N[j]? = some y := by rfl) (hij : i ≠ j := by decide)
    (hx : X.env.scope.names.lookup x = some .local := by rfl) (hy : X.env.scope.names.lookup y = some .local := by rfl)
    (hw : swappedStores [.Tuple [.Name x px, .Name y py] kt pt] (.Tuple [a, b] k2 pt2) X.env = pure (some [x, y]) := by rfl) (hs : swapsWithSole [.Tuple [.Name x px, .Name y py] kt pt] (.Tuple [a, b] k2 pt2) pos.line X.env = pure false := by rfl) :
    PS X (.Assign [.Tuple [.Name x px, .Name y py] kt pt] (.Tuple [a, b] k2 pt2) pos) (TSm g W (sPar i j L)) := by
  refine PS.im (ps_par hc hN hi hj hij hx hy ha hw hs) fun D σ H q => AtS.seqE (rel := Rls g) (k := fun us s h1 => match us with | [u, w] => .nx ((s.set i (some u)).set j (some w)) h1 | _ => .stuck) q fun ρ1 us s h1 vs H1 hs c1 r1 p => ?_
  split at p
  · rename_i u w
    obtain ⟨v, v2, rfl, q1, q2⟩ := two_of r1
    exact ⟨v, v2, rfl, p ρ1 _ H1 (Wd.refl _) c1 (Paired.set (F := Rol g ρ1) (x := some w) (y := some v2) q2 j (Paired.set (F := Rol g ρ1) (x := some u) (y := some v) q1 i hs))⟩
  · exact p.elim
/-- xs[i] = v -/
def putIn (w x y : U) (s : Sl) (h3 : Mh) : RS := match x, y with
  | .loc n, .int k => match h3[n]? with
    | some (.lst xs) => match ixN xs.length k with
      | some j => .nx s (h3.set n (.lst (xs.set j w)))
      | none => .stuck
    | _ => .stuck
  | _, _ => .stuck
def sPut (o i v : Me) : Ms := fun s h => (v s h).bindS s fun w h1 => (o s h1).bindS s fun x h2 => (i s h2).bindS s fun y h3 => putIn w x y s h3
theorem PostS.cutE {α β : Type} {rel : Wd → α → β → Prop} {ρ : Wd} {s : Sl} {σ : L2.St} {r : R α} {f : α → Mh → RS} {D : Ends} (hs : Rsl g ρ s σ) (p : PostS g W ρ (r.bindS s f) D) :
    Post g rel ρ r (fun b H1 => ∃ ρ1 a h1, Wd.Le ρ ρ1 ∧ Cs g ρ1 h1 H1 ∧ rel ρ1 a b ∧ PostS g W ρ1 (f a h1) D) (WE W σ) := by
  cases r with
  | ok a h => exact fun ρ2 b H2 e2 c2 r2 => ⟨ρ2, a, h, e2, c2, r2, PostS.mono e2 p⟩
  | ex c f h => exact fun ρ1 H1 e1 c1 => p ρ1 σ H1 e1 c1 (Rsl.mono e1 hs)
  | stuck => exact p.elim
theorem s_put {o i v : Expr} {O' I' V' : Me} {p2 : Pos} (ho : PE X o (T g W O')) (hi : PE X i (T g W I')) (hv : PE X v (T g W V'))
    (ha : ∀ v, assign (.Subscript o i p2) X.env v = (do
      let ov ← holding [v] (eval o X.env); let iv ← holding [v, ov] (eval i X.env)
      standAt p2
      holding [v, ov, iv] (setItem ov iv v); release [v, ov, iv] []) := by intro _; rfl) (hs : swapsWithSole [.Subscript o i p2] v pos.line X.env = pure false := by rfl) (hw : swappedStores [.Subscript o i p2] v X.env = pure none := by rfl)
    (h1 : (assignEach [.Subscript o i p2] X.env).map (·.2) = [assign (.Subscript o i p2) X.env] := by rfl) : PS X (.Assign [.Subscript o i p2] v pos) (TSm g W (sPut O' I' V')) := by
  refine PS.im (ps_asg hv (pg_sub ho hi set_list ha) hs hw h1) fun D σ H q => ?_
  refine AtS.seqE (rel := Rl g) (m := V') (k := fun w s h1 => (O' s h1).bindS s fun x h2 => (I' s h2).bindS s fun y h3 => putIn w x y s h3) q fun ρ1 w s h1 vw H1 hs1 c1 r1 p1 => ?_
  refine ⟨ρ1, s, h1, hs1, c1, (PostS.cutE (rel := Rl g) hs1 p1).imp fun vx H2 ⟨ρ2, x, h2, e2, c2, r2, p2⟩ => ?_⟩
  refine ⟨ρ2, s, h2, Rsl.mono e2 hs1, c2, (PostS.cutE (rel := Rl g) (Rsl.mono e2 hs1) p2).imp fun vy H3 ⟨ρ3, y, h3, e3, c3, r3, p3⟩ => ?_⟩
  cases x with
  | loc n =>
    cases y with
    | int k =>
      simp only [putIn] at p3
      cases en : h3[n]? with
      | none => rw [en] at p3; exact p3.elim
      | some o =>
        rw [en] at p3
        cases o with
        | lst xs =>
          simp only at p3
          cases ej : ixN xs.length k with
          | none => rw [ej] at p3; exact p3.elim
          | some j =>
            rw [ej] at p3
            obtain ⟨ad, vs, rfl, ea, rv, ha'⟩ := c3.lst en (Rl.mono e3 r2)
            refine ⟨ad, vs, k, j, rfl, r3, ha', by rw [← Paired.length rv]; exact ej, ?_⟩
            exact p3 ρ3 σ _ (Wd.refl _) (c3.put (o := .lst (xs.set j w)) ea (nfL ha') ⟨vs.set j vw, Paired.set (F := Rl g ρ3) (Rl.mono (e2.trans e3) r1) j rv, upd_same⟩ (c3.live en ea)) (Rsl.mono (e2.trans e3) hs1)
        | _ => exact p3.elim
    | _ => exact p3.elim
  | _ => cases y <;> exact p3.elim
end
end Vm

set_option Elab.async false
set_option linter.all false
set_option maxRecDepth 100000
set_option maxHeartbeats 4100000
namespace Vm
open L2 PyProof.Rows PySem PySem.Spec
/-! ### raise -/
abbrev veB : List Value := [.type "ValueError", .type "Exception", .type "BaseException", .type "object"]
section
variable {X : Cx} {C : Addr} {B newId initId : String} {bmB : List Value}
theorem pmk_own0 {x : Str} {p pos : Pos} (F : ExcBaseFacts B newId initId bmB) (q : PySem.W.excIn X.K C bmB newId = true) (gC : X.mg x = some (.ref C)) (kC : PySem.W.keepIn X.K (.ref C) = true) (r : Raises X (.ref C)) (hg : Gl X x)
    (hdb : (x == ("__debug__" : Str)) = false := by decide) : PMk X (.Call (.Name x p) [] [] pos) (fun _ H Q => Q (.ref C) none H) := by
  intro pins s σ H Q I h
  refine wpAny_Call_Name_kw (ld_glob I hg gC ?_ hdb); refine PySem.W.callWith_K0 I.kIn kC ?_
  show wpAny _ _ (call (.ref C) []) _ _ _
  obtain ⟨bm, N, nm, qn, bs, hdct, sn, sub, ab, col, dd, k0, k1, k2, k3, k5, mN, hC, hN, hni, T⟩ := exc_obj I.kIn q
  refine wpAny_call_exc_subT F T hC hN hni (fun h' e hm => ?_) (by show 0 ≤ sizeLine; exact Nat.zero_le _)
  exact mk_of I hm r h (I.hok.gone hm.new)
end
/-- what the written part says of an own exception class without own __init__ -/
structure Xc0 (K : PySem.W.Frag) (mg : Str → Option Value) (x : Str) (C : Addr) : Prop where
  gC : mg x = some (.ref C)
  kC : (PySem.W.keepIn K (.ref C)) = true
  xP : PySem.W.excIn K C veB "ValueError.__new__" = true
  bP : PySem.W.subIn K (.ref C) (.type "BaseException") = some true
  tP : PySem.W.typeIn K (.ref C) = some (.type "type")
/-- of one whose __init__ stores its one argument -/
structure Xc1 (K : PySem.W.Frag) (mg : Str → Option Value) (x f : Str) (C fI : Addr) : Prop where
  gC : mg x = some (.ref C)
  ox : OexC K C
  iC : PySem.W.findIn K (.ref C) "__init__" = some (some (.ref fI))
  tI : PySem.W.typeIn K (.ref fI) = some (.type "function")
  nf : PySem.W.findIn K (.ref C) f = some none
def spI (K : PySem.W.Frag) (f : Str) : Sp := fun vs H Q _ => ∃ a C y, vs = [.ref a, y] ∧ OexC K C ∧ PySem.W.findIn K (.ref C) f = some none ∧ H a = some (exo a C none) ∧
  ∀ dx, H dx = none → dx ≠ a → Q .non (upd (upd H dx (exd dx [(f, y)])) a (exo a C (some dx)))
/-- def __init__(self, f): self.f = f -/
theorem init_ok {P : Program} {w : World} {K : PySem.W.Frag} {mg : Str → Option Value} {base : Heap} {qual f : Str} {st : Stmt} {fI : Addr} {fd : FuncData} {k : Nat} {p1 p2 p3 p4 : Pos} (F : Fun K "__init__" qual st fI fd) (S : FnScope ["self", f] ["self", f] (defScope st))
    (hb : defBody st = [.Assign [.Attribute (.Name "self" p1) f p2] (.Name f p3) p4]) (h0 : Vis (defScope st) "self") (h1 : Vis (defScope st) f) (hd : (f == ("__debug__" : Str)) = false) (hcd : (f == ("__classdict__" : Str)) = false)
    (hs : ∀ X : Cx, swapsWith (.Name f p3) (some (.Attribute (.Name "self" p1) f p2)) p4.line X.env = pure false) :
    FnOk P w K mg base (L2.CX P w) (k + 1) fI fd ["self", f] (spI K f) := by
  refine F.okX S (fun vs H Q E h => ?_) (fun cdv A outer s H vs Q E hr h => ?_)
  · obtain ⟨a, C, y, rfl, _⟩ := h
    rfl
  · obtain ⟨a, C, y, rfl, T, nf, ea, q⟩ := h
    rw [hb]
    refine ⟨_, pss_one (ps_ost (pe_var (i := 0) (x := "self") rfl h0) (pe_var (i := 1) (x := f) rfl h1 hd hcd) (hs _)), ?_⟩
    exact ⟨y, rfl, .ref a, rfl, a, C, rfl, T, nf, .inl ⟨ea, fun dx n ne => q dx n ne⟩⟩
def sRaise0 (c : Nat) : Ms := fun s h => .ex c [] s h
def sRaise1 (c : Nat) (f : Str) (a : Me) : Ms := fun s h => (a s h).bindS s fun u h1 => .ex c [(f, u)] s h1
section
variable {X : Cx} {g : Gc} {W : WX} {A : Me} {M N : Ms} {e : Expr} {pos : Pos}
theorem s_raise0 {c : Nat} {x : Str} {p p2 : Pos} (hc : X.calm = true) (tk : Takes X W) (T : Xc0 X.K X.mg x (g.cl c)) (hg : Gl X x) (hdb : (x == ("__debug__" : Str)) = false := by decide) :
    PS X (.Raise (some (.Call (.Name x p) [] [] pos)) none p2) (TSm g W (sRaise0 c)) :=
  PS.im (ps_raise hc tk (pmk_own0 PySem.F.excBase_ValueError T.xP T.gC T.kC (raises_own T.bP T.tP) hg hdb)) fun D σ H ⟨ρ, s, h, hs, cs, p⟩ => (p ρ σ H (Wd.refl _) cs hs).1 rfl
theorem s_raise1 {c : Nat} {x f : Str} {p p2 : Pos} {fI : Addr} {fd : FuncData} {k : Nat} (hc : X.calm = true) (tk : Takes X W) (tk0 : Passes (L2.CX X.prog X.w) X (fun _ _ _ => False)) (T : Xc1 X.K X.mg x f (g.cl c) fI) (F : FnOk X.prog X.w X.K X.mg X.base (L2.CX X.prog X.w) k fI fd ["self", f] (spI X.K f)) (hr : Room (k + 1) X.A)
    (hb : Binds X.K fd ["self", f] []) (hg : Gl X x) (ha : PE X e (Vm.T g W A)) (hst : starEach [e] X.env = (false, eval e X.env) :: starEach [] X.env := by rfl) (hpl : (backTo pos (starEach ([] : List Expr) X.env)).any (·.1) = false := by rfl) (hdb : (x == ("__debug__" : Str)) = false := by decide) :
    PS X (.Raise (some (.Call (.Name x p) [e] [] pos)) none p2) (TSm g W (sRaise1 c f A)) := by
  refine PS.im (ps_raise hc tk (pmk_oex (sp := spI X.K f) (ds := []) (dvs := []) T.ox T.iC T.tI F hr hb .nil tk0 hg T.gC (pa_cons ha pa_nil hst) hdb hst hpl)) fun D σ H q => ?_
  refine AtS.seqE (rel := Rl g) (k := fun u s h1 => .ex c [(f, u)] s h1) q fun ρ1 u s h1 v H1 hs c1 r1 p => ?_
  refine ⟨(by show 1 ≤ 1000; decide), fun a ha => ⟨a, g.cl c, v, rfl, T.ox, T.nf, upd_same, fun dx hdx hne => ⟨rfl, dx, [(f, v)], upd_same, ?_, ?_, ?_⟩⟩⟩
  · rw [upd_ne hne, upd_same]
  · rw [upd_ne hne] at hdx
    exact hdx
  · have hd0 : H1 dx = none := by
      rw [upd_ne hne] at hdx
      exact hdx
    have q := (p ρ1 σ H1 (Wd.refl _) c1 hs).2 dx [(f, v)] (by simp) hd0 (.cons ⟨rfl, r1⟩ .nil)
    have e : upd (del (upd (upd (upd H1 a (exo a (g.cl c) none)) dx (exd dx [(f, v)])) a (exo a (g.cl c) (some dx))) a) dx (HO.xd [(f, v)]) = upd H1 dx (HO.xd [(f, v)]) := by
      funext b
      by_cases h1 : b = dx
      · subst h1
        rw [upd_same, upd_same]
      · rw [upd_ne h1, upd_ne h1]
        by_cases h2 : b = a
        · subst h2
          rw [del_same, ha]
        · rw [del_ne h2, upd_ne h2, upd_ne h1, upd_ne h2]
    show W (.ref (g.cl c)) (some dx) σ _
    rw [e]
    exact q

/-! ### try .. except X: suite -/
def noEx : RS → RS
  | .ex _ _ _ _ => .stuck
  | r => r
/-- tks: whether the clause takes the class -/
def sTry (b : Ms) (tks : Nat → Option Bool) (sx : Ms) : Ms := fun s h => match b s h with
  | .ex c f s1 h1 => match tks c with
    | some true => noEx (sx s1 h1)
    | some false => .ex c f s1 h1
    | none => .stuck
  | r => r
theorem PostS.noEx {ρ : Wd} {r : RS} {D : Ends} {W' : WX} (p : PostS g W ρ (noEx r) D) : PostS g W' ρ r D := by
  cases r with
  | ex c f s h => exact p.elim
  | nx s h => exact p
  | rt u h => exact p
  | bk s h => exact p
  | ct s h => exact p
  | stuck => exact p
theorem s_try {x : Str} {cv : Value} {body suite : List Stmt} {b₀ : Stmt} {np pos' : Pos} {tks : Nat → Option Bool} (hs : X.stack = X.env :: X.outer) (hf : X.env.frame = some X.env.locals) (hc : Names X x cv) (tk : Takes X W)
    (hx : ∀ c k, tks c = some k → PySem.W.exmOne X.K (.ref (g.cl c)) cv = some k)
    (hb : ∀ (W' : WX) (pn : List (Addr × Obj)) (xe : Value → Shared → Prop), Takes (X.tr pn xe) W' → PassesOwn (model X.prog X.w) X.A X.env xe → PSs (X.tr pn xe) body (TSm g W' M))
    (hsu : ∀ (a : Addr) (pn : List (Addr × Obj)), PSs (X.suite a pn) (b₀ :: suite) (TSm g W0 N)) :
    PS X (.Try body [.ExceptHandler (some (.Name x np)) none (b₀ :: suite) pos'] [] [] pos) (TSm g W (sTry M tks N)) := by
  refine PS.im (ps_try_only (tb := fun W' => TSm g W' M) (ts := fun _ _ _ => TSm g W0 N) hs hf hc tk hb (fun a oe cls d pn _ _ => hsu a _)) fun D σ H ⟨ρ, s, h, hr, cs, p⟩ => ?_
  refine ⟨ρ, s, h, hr, cs, ?_⟩
  unfold sTry at p
  cases em : M s h with
  | ex c f s1 h1 =>
    rw [em] at p
    simp only at p
    intro ρ' σ' H' e' c' r'
    cases et : tks c with
    | none => rw [et] at p; exact p.elim
    | some k =>
      rw [et] at p
      have ek := hx c k et
      cases k with
      | true =>
        simp only at p
        have q : PostS g W0 ρ' (N s1 h1) D := PostS.mono e' (PostS.noEx p)
        exact ⟨fun _ => ⟨true, ek, fun _ a _ => ⟨ρ', s1, h1, r', c', q⟩, (fun z => nomatch z)⟩, fun d gs _ hd _ => ⟨true, ek, fun _ a _ => ⟨ρ', s1, h1, r', c'.skip hd, q⟩, (fun z => nomatch z)⟩⟩
      | false =>
        simp only at p
        exact ⟨fun f0 => ⟨false, ek, (fun z => nomatch z), fun _ => (p ρ' σ' H' e' c' r').1 f0⟩, fun d gs f0 hd rf => ⟨false, ek, (fun z => nomatch z), fun _ => (p ρ' σ' H' e' c' r').2 d gs f0 hd rf⟩⟩
  | nx s1 h1 => rw [em] at p; exact p
  | rt u h1 => rw [em] at p; exact p
  | bk s1 h1 => rw [em] at p; exact p
  | ct s1 h1 => rw [em] at p; exact p
  | stuck => rw [em] at p; exact p
/-! ### try .. except X as n: suite; n's fields read -/
/-- no place of the caught exception -/
def clean : U → Bool
  | .exn => false
  | _ => true
def cleanO : O → Bool
  | .lst xs => xs.all clean
  | .tup xs => xs.all clean
  | .tpl xs => xs.all clean
  | .ins _ fs => fs.all fun p => clean p.2
  | .exc _ fs => fs.all fun p => clean p.2
  | .ded => true
def cleanS (s : Sl) : Bool := s.all fun u => match u with
  | some u => clean u
  | none => true
def unslot (i : Nat) : RS → RS
  | .nx s h => if cleanS (s.set i none) && h.all cleanO then .nx (s.set i none) h else .stuck
  | .rt u h => if clean u && h.all cleanO then .rt u h else .stuck
  | _ => .stuck
def sTryAs (b : Ms) (tks : Nat → Option Bool) (i : Nat) (sx : Nat → List (Str × U) → Ms) : Ms := fun s h => match b s h with
  | .ex c f s1 h1 => match tks c with
    | some true => match f with
      | [] => .stuck
      | p :: f => unslot i (sx c (p :: f) (s1.set i (some .exn)) h1)
    | some false => .ex c f s1 h1
    | none => .stuck
  | r => r
/-- the context within a suite -/
abbrev Gc.at (g : Gc) (a dd : Addr) (f : List (Str × U)) : Gc := { g with exn := some (a, dd, f) }
end
section
variable {g : Gc} {ρ : Wd} {h : Mh} {H : Hp} {a dd : Addr} {f : List (Str × U)}
theorem Rl.up (hg : g.exn = none) {u : U} {v : V} (r : Rl g ρ u v) : Rl (g.at a dd f) ρ u v := by
  cases u with
  | exn =>
    obtain ⟨_, _, _, e, _⟩ := r
    rw [hg] at e
    cases e
  | _ => exact r
theorem Rls.up (hg : g.exn = none) {us : List U} {vs : List V} (r : Rls g ρ us vs) : Rls (g.at a dd f) ρ us vs := Paired.mapP r fun _ _ q => Rl.up hg q
theorem Rf.up (hg : g.exn = none) {us : List (Str × U)} {vs : List (Str × V)} (r : Rf g ρ us vs) : Rf (g.at a dd f) ρ us vs := Paired.mapP r fun _ _ q => ⟨q.1, Rl.up hg q.2⟩
theorem Rsl.up (hg : g.exn = none) {us : Sl} {vs : L2.St} (r : Rsl g ρ us vs) : Rsl (g.at a dd f) ρ us vs := Paired.mapP r fun x y q => by
  cases x with
  | none => trivial
  | some u =>
    cases y with
    | none => exact q
    | some v => exact Rl.up hg q
theorem Om.up (hg : g.exn = none) {b : Addr} {o : O} (m : Om g ρ H b o) : Om (g.at a dd f) ρ H b o := by
  cases o with
  | lst xs => obtain ⟨vs, r, q⟩ := m; exact ⟨vs, Rls.up hg r, q⟩
  | tup xs => obtain ⟨vs, o, r, d, q⟩ := m; exact ⟨vs, o, Rls.up hg r, d, q⟩
  | tpl xs => obtain ⟨vs, r, q⟩ := m; exact ⟨vs, Rls.up hg r, q⟩
  | ins c fs => obtain ⟨dx, gs, r, q⟩ := m; exact ⟨dx, gs, Rf.up hg r, q⟩
  | exc c fs =>
    rcases m with ⟨e0, q⟩ | ⟨dx, gs, r, q, q2⟩
    · exact .inl ⟨e0, q⟩
    · exact .inr ⟨dx, gs, Rf.up hg r, q, q2⟩
  | ded => exact m
theorem Cs.up (hg : g.exn = none) (c : Cs g ρ h H) {gs : List (Str × V)} (r : Rf g ρ f gs) (e : H dd = some (.xd gs)) : Cs (g.at a dd f) ρ h H :=
  ⟨c.len, fun n o b e1 e2 => Om.up hg (c.at_ n o b e1 e2), c.inj, c.scr, fun a' dd' f' ex => by
    have ex' : some (a, dd, f) = some (a', dd', f') := ex
    cases ex'
    exact ⟨gs, Rf.up hg r, e⟩, c.fzH, c.lkH, c.apt, c.nfl⟩
theorem Rl.down {u : U} {v : V} (r : Rl (g.at a dd f) ρ u v) (c : clean u = true) : Rl g ρ u v := by
  cases u with
  | exn => cases c
  | _ => exact r
theorem Rls.down : ∀ {us : List U} {vs : List V}, Rls (g.at a dd f) ρ us vs → us.all clean = true → Rls g ρ us vs
  | _, _, .nil, _ => .nil
  | _, _, .cons q t, c => by
    rw [List.all_cons, Bool.and_eq_true] at c
    exact .cons (Rl.down q c.1) (Rls.down t c.2)
theorem Rf.down : ∀ {us : List (Str × U)} {vs : List (Str × V)}, Rf (g.at a dd f) ρ us vs → (us.all fun p => clean p.2) = true → Rf g ρ us vs
  | _, _, .nil, _ => .nil
  | _, _, .cons q t, c => by
    rw [List.all_cons, Bool.and_eq_true] at c
    exact .cons ⟨q.1, Rl.down q.2 c.1⟩ (Rf.down t c.2)
theorem Rsl.down : ∀ {us : Sl} {vs : L2.St}, Rsl (g.at a dd f) ρ us vs → cleanS us = true → Rsl g ρ us vs
  | _, _, .nil, _ => .nil
  | x :: _, y :: _, .cons q t, c => by
    unfold cleanS at c
    rw [List.all_cons, Bool.and_eq_true] at c
    refine .cons ?_ (Rsl.down t c.2)
    cases x with
    | none => trivial
    | some u =>
      cases y with
      | none => exact q
      | some v => exact Rl.down q c.1
theorem Cs.down (c : Cs (g.at a dd f) ρ h H) (hg : g.exn = none) (k : h.all cleanO = true) : Cs g ρ h H :=
  ⟨c.len, fun n o b e1 e2 => by
    have m := c.at_ n o b e1 e2
    have ko : cleanO o = true := List.all_eq_true.mp k o (List.mem_of_getElem? e1)
    cases o with
    | lst xs => obtain ⟨vs, r, q⟩ := m; exact ⟨vs, Rls.down r ko, q⟩
    | tup xs => obtain ⟨vs, o, r, d, q⟩ := m; exact ⟨vs, o, Rls.down r ko, d, q⟩
    | tpl xs => obtain ⟨vs, r, q⟩ := m; exact ⟨vs, Rls.down r ko, q⟩
    | ins c fs => obtain ⟨dx, gs, r, q⟩ := m; exact ⟨dx, gs, Rf.down r ko, q⟩
    | exc c fs =>
      rcases m with ⟨e0, q⟩ | ⟨dx, gs, r, q, q2⟩
      · exact .inl ⟨e0, q⟩
      · exact .inr ⟨dx, gs, Rf.down r ko, q, q2⟩
    | ded => exact m, c.inj, c.scr, fun a' dd' f' ex => by
    (rw [hg] at ex; cases ex), c.fzH, c.lkH, c.apt, c.nfl⟩
end
section
variable {X : Cx} {g : Gc} {W : WX} {A : Me} {M : Ms} {e : Expr} {pos : Pos}
theorem s_tryAs {x n : Str} {cv : Value} {body suite : List Stmt} {b₀ : Stmt} {np pos' : Pos} {tks : Nat → Option Bool} {i : Nat} {N : Nat → List (Str × U) → Ms} (hgx : g.exn = none) (hs : X.stack = X.env :: X.outer) (hf : X.env.frame = some X.env.locals) (hN : X.N.Nodup) (hi : X.N[i]? = some n) (hln : X.env.kindOf n = some .local) (hc : Names X x cv) (tk : Takes X W)
    (hx : ∀ c k, tks c = some k → PySem.W.exmOne X.K (.ref (g.cl c)) cv = some k)
    (hb : ∀ (W' : WX) (pn : List (Addr × Obj)) (xe : Value → Shared → Prop), Takes (X.tr pn xe) W' → PassesOwn (model X.prog X.w) X.A X.env xe → PSs (X.tr pn xe) body (TSm g W' M))
    (hsu : ∀ (a : Addr) (oe : Obj) (c : Nat) (dd : Addr) (f : List (Str × U)) (pn : List (Addr × Obj)), tks c = some true → Zc (.ref (g.cl c)) (some dd) oe → (∃ vs, oe.data = .fields vs) → PSs (X.suite a ((a, oe) :: pn)) (b₀ :: suite) (TSm (g.at a dd f) W0 (N c f))) :
    PS X (.Try body [.ExceptHandler (some (.Name x np)) (some n) (b₀ :: suite) pos'] [] [] pos) (TSm g W (sTryAs M tks i N)) := by
  refine PS.im (ps_try_as (tb := fun W' => TSm g W' M) (ts := fun a cls d D σ H => ∃ c dd f, cls = .ref (g.cl c) ∧ d = some dd ∧ tks c = some true ∧ TSm (g.at a dd f) W0 (N c f) D σ H) hs hf hN hi hln hc tk hb (fun a oe cls d pn hz hd => ⟨fun pins s σ H D I q => ?_⟩)) fun D σ H ⟨ρ, s, h, hr, cs, p⟩ => ?_
  · obtain ⟨c, dd, f, rfl, rfl, ht, q⟩ := q
    exact (hsu a oe c dd f pn ht hz hd).run pins s σ H D I q
  refine ⟨ρ, s, h, hr, cs, ?_⟩
  unfold sTryAs at p
  cases em : M s h with
  | ex c f s1 h1 =>
    rw [em] at p
    simp only at p
    intro ρ' σ' H' e' c' r'
    cases et : tks c with
    | none => rw [et] at p; exact p.elim
    | some k =>
      rw [et] at p
      have ek := hx c k et
      cases k with
      | true =>
        simp only at p
        cases f with
        | nil => exact p.elim
        | cons p0 f0 =>
        simp only at p
        have hne : p0 :: f0 ≠ [] := by simp
        generalize p0 :: f0 = f at p hne
        refine ⟨fun f0 => absurd f0 hne, fun d gs _ hd rf => ⟨true, ek, fun _ a ha => ⟨c, d, f, rfl, rfl, et, ρ', s1.set i (some .exn), h1, ?_, Cs.up hgx (c'.skip hd) rf upd_same, ?_⟩, (fun z => nomatch z)⟩⟩
        · exact Paired.set (F := Rol (g.at a d f) ρ') (x := some .exn) (y := some (.ref a)) ⟨a, d, f, rfl, rfl⟩ i (Rsl.up hgx r')
        · have p := PostS.mono e' p
          cases en : N c f (s1.set i (some .exn)) h1 with
          | nx s2 h2 =>
            rw [en] at p
            simp only [unslot] at p
            cases ek : (cleanS (s2.set i none) && h2.all cleanO) with
            | true =>
              rw [ek, if_pos rfl] at p
              rw [Bool.and_eq_true] at ek
              intro ρ2 σ2 H2 e2 c2 r2
              exact p ρ2 _ H2 e2 (c2.down hgx ek.2) (Rsl.down (Paired.set (F := Rol (g.at a d f) ρ2) (x := none) (y := none) trivial i r2) ek.1)
            | false => rw [ek, if_neg Bool.false_ne_true] at p; exact p.elim
          | rt u h2 =>
            rw [en] at p
            simp only [unslot] at p
            cases ek : (clean u && h2.all cleanO) with
            | true =>
              rw [ek, if_pos rfl] at p
              rw [Bool.and_eq_true] at ek
              intro ρ2 v2 H2 e2 c2 r2
              exact p ρ2 v2 H2 e2 (c2.down hgx ek.2) (Rl.down r2 ek.1)
            | false => rw [ek, if_neg Bool.false_ne_true] at p; exact p.elim
          | bk s2 h2 => rw [en] at p; exact p.elim
          | ct s2 h2 => rw [en] at p; exact p.elim
          | ex c2 f2 s2 h2 => rw [en] at p; exact p.elim
          | stuck => rw [en] at p; exact p.elim
      | false =>
        simp only at p
        exact ⟨fun f0 => ⟨false, ek, (fun z => nomatch z), fun _ => (p ρ' σ' H' e' c' r').1 f0⟩, fun d gs f0 hd rf => ⟨false, ek, (fun z => nomatch z), fun _ => (p ρ' σ' H' e' c' r').2 d gs f0 hd rf⟩⟩
  | nx s1 h1 => rw [em] at p; exact p
  | rt u h1 => rw [em] at p; exact p
  | bk s1 h1 => rw [em] at p; exact p
  | ct s1 h1 => rw [em] at p; exact p
  | stuck => rw [em] at p; exact p
/-- n.attr in the suite -/
def mXf (f : List (Str × U)) (n : Str) (a : Me) : Me := fun s h => (a s h).bind fun u h1 => match u with
  | .exn => match f.lookup n with
    | some w => .ok w h1
    | none => .stuck
  | _ => .stuck
theorem Rf.look {ρ : Wd} {n : Str} : ∀ {f : List (Str × U)} {gs : List (Str × V)} {u : U}, Rf g ρ f gs → f.lookup n = some u → ∃ v, gs.lookup n = some v ∧ Rl g ρ u v
  | _, _, _, .nil, e => by cases e
  | (m, x) :: _, (m', y) :: _, u, .cons ⟨q1, q2⟩ t, e => by
    have q1 : m = m' := q1
    subst q1
    unfold List.lookup at e ⊢
    cases hm : n == m with
    | true =>
      rw [hm] at e
      cases e
      exact ⟨y, rfl, q2⟩
    | false =>
      rw [hm] at e
      exact Rf.look t e
theorem e_xf {a : Addr} {oe : Obj} {c : Nat} {dd : Addr} {f : List (Str × U)} {pn : List (Addr × Obj)} {n : Str} (T : XfC X.K (g.cl c)) (hno : PySem.W.findIn X.K (.ref (g.cl c)) n = some none) (hz : Zc (.ref (g.cl c)) (some dd) oe) (hf : ∃ vs, oe.data = .fields vs)
    (he : PE (X.suite a ((a, oe) :: pn)) e (Vm.T (g.at a dd f) W A)) (hb : attributeBase e n X.env (eval e X.env) = eval e X.env := by rfl) :
    PE (X.suite a ((a, oe) :: pn)) (.Attribute e n pos) (Vm.T (g.at a dd f) W (mXf f n A)) := by
  refine PE.im (pe_xf T hno hz hf he hb) fun σ H Q q => At.seq (rel := Rl (g.at a dd f)) q fun ρ1 x s h1 v H1 hs1 c1 r1 p1 => ?_
  cases x with
  | exn =>
    obtain ⟨a', dd', f', ex, rfl⟩ := r1
    have ex' : some (a, dd, f) = some (a', dd', f') := ex
    cases ex'
    obtain ⟨gs, rf, ed⟩ := c1.xn a dd f rfl
    simp only at p1
    cases el : f.lookup n with
    | none => rw [el] at p1; exact p1.elim
    | some w =>
      rw [el] at p1
      obtain ⟨vv, ev, rv⟩ := Rf.look rf el
      exact ⟨rfl, rfl, dd, gs, vv, rfl, ed, ev, Post.here (rel := Rl (g.at a dd f)) p1 c1 rv⟩
  | _ => exact p1.elim
end
end Vm

set_option Elab.async false
set_option linter.all false
set_option maxRecDepth 100000
set_option maxHeartbeats 4100000
namespace Vm
open L2 PyProof.Rows PySem PySem.Spec
/-! ### own classes -/
/-- the instance's fields, of the class c -/
def insOf (c : Nat) (u : U) (h : Mh) : Option (Nat × List (Str × U)) := match u with
  | .loc n => match h[n]? with
    | some (.ins k fs) => if k = c then some (n, fs) else none
    | _ => none
  | _ => none
def mFld (c : Nat) (f : Str) (a : Me) : Me := fun s h => (a s h).bind fun u h1 => match insOf c u h1 with
  | some (_, fs) => match fs.lookup f with
    | some w => .ok w h1
    | none => .stuck
  | none => .stuck
def putFU (f : Str) (v : U) : List (Str × U) → List (Str × U)
  | [] => [(f, v)]
  | (g, x) :: r => if g = f then (g, v) :: r else (g, x) :: putFU f v r
def sFldM (c : Nat) (f : Str) (o v : Me) : Ms := fun s h => (v s h).bindS s fun w h1 => (o s h1).bindS s fun u h2 => match insOf c u h2 with
  | some (n, fs) => if fs.length < 1000 then .nx s (h2.set n (.ins c (putFU f w fs))) else .stuck
  | none => .stuck
/-- o.m(..), m no attribute of the object -/
def mMeth (c : Nat) (m : Str) (d : List U → Mh → R U) (o : Me) (a : Ml) : Me := fun s h => (o s h).bind fun u h1 => match insOf c u h1 with
  | some (_, fs) => match fs.lookup m with
    | none => (a s h1).bind fun us h2 => d (u :: us) h2
    | some _ => .stuck
  | none => .stuck
def nox {α : Type} : R α → R α
  | .ex _ _ _ => .stuck
  | r => r
def mProp (c : Nat) (d : List U → Mh → R U) (o : Me) : Me := fun s h => (o s h).bind fun u h1 => match insOf c u h1 with
  | some _ => nox (d [u] h1)
  | none => .stuck
def mMake (c : Nat) (d : List U → Mh → R U) (a : Ml) : Me := fun s h => (a s h).bind fun us h1 => (d (.loc h1.length :: us) (h1 ++ [.ins c []])).bind fun w h2 => match w with
  | .non => .ok (.loc h1.length) h2
  | _ => .stuck
section
variable {X : Cx} {g : Gc} {W : WX} {A O' V' : Me} {L : Ml} {e o v : Expr} {es : List Expr} {f m x : Str} {pos p apos : Pos} {c : Nat}
theorem insOf_ok {ρ : Wd} {h : Mh} {H : Hp} {u : U} {vv : V} {n : Nat} {fs : List (Str × U)} (cs : Cs g ρ h H) (r : Rl g ρ u vv) (e : insOf c u h = some (n, fs)) : ∃ a dx gs, u = .loc n ∧ vv = .ref a ∧ ρ.as[n]? = some a ∧ Rf g ρ fs gs ∧ H a = some (.ins (g.cl c) dx gs) := by
  unfold insOf at e
  cases u with
  | loc k =>
    simp only at e
    cases en : h[k]? with
    | none => rw [en] at e; cases e
    | some ob =>
      rw [en] at e
      cases ob with
      | ins k2 fs2 =>
        simp only at e
        by_cases hk : k2 = c
        · rw [if_pos hk] at e
          cases e
          subst hk
          obtain ⟨a, ea, rfl⟩ := r
          obtain ⟨dx, gs, rf, q⟩ := cs.at_ _ _ a en ea
          exact ⟨a, dx, gs, rfl, rfl, ea, rf, q⟩
        · rw [if_neg hk] at e
          cases e
      | _ => cases e
  | _ => cases e
theorem insOf_en {h : Mh} {u : U} {n : Nat} {fs : List (Str × U)} (e : insOf c u h = some (n, fs)) : h[n]? = some (.ins c fs) := by
  unfold insOf at e
  cases u with
  | loc k =>
    simp only at e
    cases en : h[k]? with
    | none => rw [en] at e; cases e
    | some ob =>
      rw [en] at e
      cases ob with
      | ins k2 fs2 =>
        simp only at e
        by_cases hk : k2 = c
        · rw [if_pos hk] at e
          cases e
          subst hk
          exact en
        · rw [if_neg hk] at e
          cases e
      | _ => cases e
  | _ => cases e
theorem Rf.look0 {ρ : Wd} {n : Str} : ∀ {f : List (Str × U)} {gs : List (Str × V)}, Rf g ρ f gs → f.lookup n = none → gs.lookup n = none
  | _, _, .nil, _ => rfl
  | (m, x) :: _, (m', y) :: _, .cons ⟨q1, q2⟩ t, e => by
    have q1 : m = m' := q1
    subst q1
    unfold List.lookup at e ⊢
    cases hm : n == m with
    | true => rw [hm] at e; cases e
    | false => rw [hm] at e; exact Rf.look0 t e
theorem Rf.put {ρ : Wd} {n : Str} {w : U} {vw : V} (r : Rl g ρ w vw) : ∀ {f : List (Str × U)} {gs : List (Str × V)}, Rf g ρ f gs → Rf g ρ (putFU n w f) (putF n vw gs)
  | _, _, .nil => .cons ⟨rfl, r⟩ .nil
  | (m, x) :: f, (m', y) :: gs, .cons ⟨q1, q2⟩ t => by
    have q1 : m = m' := q1
    subst q1
    unfold putFU putF
    by_cases hm : m = n
    · rw [if_pos hm, if_pos hm]
      exact .cons ⟨rfl, r⟩ t
    · rw [if_neg hm, if_neg hm]
      exact .cons ⟨rfl, q2⟩ (Rf.put r t)
theorem e_fld (T : Cls X.K (g.cl c)) (nf : NoAttr X.K (g.cl c) f) (he : PE X e (Vm.T g W A)) (hb : attributeBase e f X.env (eval e X.env) = eval e X.env := by rfl) : PE X (.Attribute e f pos) (Vm.T g W (mFld c f A)) := by
  refine PE.im (pe_fld he hb) fun σ H Q q => At.seq (rel := Rl g) q fun ρ1 u s h1 vv H1 hs1 c1 r1 p1 => ?_
  cases ei : insOf c u h1 with
  | none => rw [ei] at p1; exact p1.elim
  | some nf' =>
    obtain ⟨n, fs⟩ := nf'
    rw [ei] at p1
    simp only at p1
    obtain ⟨a, dx, gs, rfl, rfl, ea, rf, q⟩ := insOf_ok c1 r1 ei
    cases el : fs.lookup f with
    | none => rw [el] at p1; exact p1.elim
    | some w =>
      rw [el] at p1
      obtain ⟨y, ey, ry⟩ := Rf.look rf el
      exact ⟨a, g.cl c, dx, gs, y, rfl, q, T, nf, ey, Post.here (rel := Rl g) p1 c1 ry⟩
theorem s_fldM {p' : Pos} (T : Cls X.K (g.cl c)) (nf : NoAttr X.K (g.cl c) f) (ho : PE X o (Vm.T g W O')) (hv : PE X v (Vm.T g W V')) (hs : swapsWith v (some (.Attribute o f p')) pos.line X.env = pure false := by rfl) :
    PS X (.Assign [.Attribute o f p'] v pos) (TSm g W (sFldM c f O' V')) := by
  refine PS.im (ps_fld ho hv hs) fun D σ H q => ?_
  refine AtS.seqE (rel := Rl g) (m := V') (k := fun w s h1 => (O' s h1).bindS s fun u h2 => match insOf c u h2 with
    | some (n, fs) => if fs.length < 1000 then .nx s (h2.set n (.ins c (putFU f w fs))) else .stuck
    | none => .stuck) q fun ρ1 w s h1 vw H1 hs1 c1 r1 p1 => ?_
  refine ⟨ρ1, s, h1, hs1, c1, (PostS.cutE (rel := Rl g) hs1 p1).imp fun vx H2 ⟨ρ2, u, h2, e2, c2, r2, p2⟩ => ?_⟩
  cases ei : insOf c u h2 with
  | none => rw [ei] at p2; exact p2.elim
  | some nf' =>
    obtain ⟨n, fs⟩ := nf'
    rw [ei] at p2
    simp only at p2
    obtain ⟨a, dx, gs, rfl, rfl, ea, rf, q⟩ := insOf_ok c2 r2 ei
    by_cases hl : fs.length < 1000
    · rw [if_pos hl] at p2
      refine ⟨a, g.cl c, dx, gs, rfl, q, T, nf, by rw [← Paired.length rf]; exact hl, ?_⟩
      exact p2 ρ2 σ _ (Wd.refl _) (c2.put (o := .ins c (putFU f w fs)) ea ⟨fun _ _ z => (by rw [q] at z; cases z), fun _ z => (by rw [q] at z; cases z), fun _ z => (by rw [q] at z; cases z)⟩ ⟨dx, _, Rf.put (Rl.mono e2 r1) rf, upd_same⟩ (c2.live (insOf_en ei) ea)) (Rsl.mono e2 hs1)
    · rw [if_neg hl] at p2
      exact p2.elim
/-! ### methods, with what they may let out wished at the slots -/
def tMethS (C : Addr) (m : Str) (sp : Sp) (E : L2.St → XK) (ta : TE) (t : TA) : TE := fun σ H Q => ta σ H fun x H1 => ∃ a dx fs, x = .ref a ∧ H1 a = some (.ins C dx fs) ∧ fs.lookup m = none ∧
  t σ H1 fun vs H2 => sp (x :: vs) H2 Q (E σ)
theorem pe_methT {CX : CXT} {k : Nat} {C fm : Addr} {fd : FuncData} {ps : List Str} {sp : Sp} {E : L2.St → XK} {ta : TE} {t : TA} {pl : Sem Bool} (he : PE X o ta) (cl : Cls X.K C) (hm : Meth X.K C m fm) (F : FnOk X.prog X.w X.K X.mg X.base CX k fm fd ps sp) (hr : Room k X.A) (hb : Binds X.K fd ps []) (hx : ∀ σ, PassesAt CX X σ (E σ)) (ha : PA X (e :: es) t) (hst : starEach (e :: es) X.env = (false, eval e X.env) :: starEach es X.env := by rfl) (hpl : (backTo pos (starEach es X.env)).any (·.1) = false := by rfl) (ht : eval (.Call (.Attribute o m apos) (e :: es) [] pos) X.env = (do
      let ov ← eval o X.env
      standAt apos.atName
      let (f, first) ← holding [ov] (getMethod ov m pl); callWith pos f first (backTo pos (starEach (e :: es) X.env)) (backToKw pos (keywordEach [] X.env))) := by rfl) : PE X (.Call (.Attribute o m apos) (e :: es) [] pos) (tMethS C m sp E ta t) := by
  refine ⟨fun pins s σ H Q I h => ?_⟩; refine PySem.W.methodCall_KW (pl := pl) (thn (he.run pins s σ H _ I h) fun u s1 ⟨x, H1, I1, rx, a, dx, fs, ex, ea, l, q⟩ => ?_) ht
  subst ex
  obtain rfl : u = Value.ref a := rx; refine getmeth_ok I1 ea cl hm l ?_
  refine PySem.W.callWith_K (h₀ := X.base) (first := [.ref a]) I.ok.mod.kin hm.kp (thn (ha.run pos pins s1 σ H1 _ I1 q) fun us s2 ⟨vs, H2, I2, r, q2⟩ => ⟨I2.kIn, ?_⟩) hst hpl; exact run_fnS (us := .ref a :: us) (vs := .ref a :: vs) F hr hb (hx σ) I2 (.cons rfl r) q2
theorem pe_methT0 {CX : CXT} {k : Nat} {C fm : Addr} {fd : FuncData} {ps : List Str} {sp : Sp} {E : L2.St → XK} {ta : TE} {pl : Sem Bool} (he : PE X o ta) (cl : Cls X.K C) (hm : Meth X.K C m fm) (F : FnOk X.prog X.w X.K X.mg X.base CX k fm fd ps sp) (hr : Room k X.A) (hb : Binds X.K fd ps []) (hx : ∀ σ, PassesAt CX X σ (E σ)) (ht : eval (.Call (.Attribute o m apos) [] [] pos) X.env = (do
      let ov ← eval o X.env
      standAt apos.atName
      let (f, first) ← holding [ov] (getMethod ov m pl); callWith pos f first (backTo pos (starEach [] X.env)) (backToKw pos (keywordEach [] X.env))) := by rfl) :
    PE X (.Call (.Attribute o m apos) [] [] pos) (tMethS C m sp E ta tNil) := by
  refine ⟨fun pins s σ H Q I h => ?_⟩; refine PySem.W.methodCall_KW (pl := pl) (thn (he.run pins s σ H _ I h) fun u s1 ⟨x, H1, I1, rx, a, dx, fs, ex, ea, l, q⟩ => ?_) ht
  subst ex
  obtain rfl : u = Value.ref a := rx; refine getmeth_ok I1 ea cl hm l ?_
  exact PySem.W.callWith_K0 (first := [.ref a]) I1.kIn hm.kp (run_fnS (us := [.ref a]) (vs := [.ref a]) F hr hb (hx σ) I1 (.cons rfl .nil) q)
theorem meth_read {n : Nat} {d : List U → Mh → R U} {σ : L2.St} {H : Hp} {Q : VK} (hl : ∀ s h xs h', L s h = .ok xs h' → xs.length + 1 = n) (q : At g (Rl g) (mMeth c m d A L) (WE W σ) σ H Q) : tMethS (g.cl c) m (spM g n d) (WE W) (Vm.T g W A) (TL g W L) σ H Q := by
  refine At.seq (rel := Rl g) q fun ρ1 u s h1 vv H1 hs1 c1 r1 p1 => ?_
  cases ei : insOf c u h1 with
  | none => rw [ei] at p1; exact p1.elim
  | some nf' =>
    obtain ⟨k, fs⟩ := nf'
    rw [ei] at p1
    simp only at p1
    obtain ⟨a, dx, gs, rfl, rfl, ea, rf, qa⟩ := insOf_ok c1 r1 ei
    cases el : fs.lookup m with
    | some w => rw [el] at p1; exact p1.elim
    | none =>
      rw [el] at p1
      refine ⟨a, dx, gs, rfl, qa, Rf.look0 rf el, ρ1, s, h1, hs1, c1, ?_⟩
      cases eL : L s h1 with
      | ok us h2 =>
        rw [eL] at p1
        intro ρ2 vs H2 e2 c2 r2
        exact ⟨by rw [List.length_cons, ← Paired.length r2]; exact hl _ _ _ _ eL, ρ2, .loc k :: us, h2, .cons (Rl.mono e2 r1) r2, c2, Post.mono e2 p1⟩
      | ex cc ff h2 => rw [eL] at p1; exact p1
      | stuck => rw [eL] at p1; exact p1.elim
theorem e_meth {k : Nat} {fm : Addr} {fd : FuncData} {ps : List Str} {n : Nat} {d : List U → Mh → R U} (T : Cls X.K (g.cl c)) (hm : Meth X.K (g.cl c) m fm) (F : FnOk X.prog X.w X.K X.mg X.base (L2.CX X.prog X.w) k fm fd ps (spM g n d)) (hr : Room k X.A) (hb : Binds X.K fd ps []) (tk : Takes X W) (he : PE X o (Vm.T g W A)) (ha : PA X (e :: es) (TL g W L))
    (hl : ∀ s h xs h', L s h = .ok xs h' → xs.length + 1 = n) {pl : Sem Bool} (hst : starEach (e :: es) X.env = (false, eval e X.env) :: starEach es X.env := by rfl) (hpl : (backTo pos (starEach es X.env)).any (·.1) = false := by rfl) (ht : eval (.Call (.Attribute o m apos) (e :: es) [] pos) X.env = (do
      let ov ← eval o X.env
      standAt apos.atName
      let (f, first) ← holding [ov] (getMethod ov m pl); callWith pos f first (backTo pos (starEach (e :: es) X.env)) (backToKw pos (keywordEach [] X.env))) := by rfl) :
    PE X (.Call (.Attribute o m apos) (e :: es) [] pos) (Vm.T g W (mMeth c m d A L)) :=
  PE.im (pe_methT he T hm F hr hb (fun σ => passAt tk σ) ha hst hpl ht) fun σ H Q q => meth_read hl q
theorem e_meth0 {k : Nat} {fm : Addr} {fd : FuncData} {ps : List Str} {n : Nat} {d : List U → Mh → R U} (T : Cls X.K (g.cl c)) (hm : Meth X.K (g.cl c) m fm) (F : FnOk X.prog X.w X.K X.mg X.base (L2.CX X.prog X.w) k fm fd ps (spM g n d)) (hr : Room k X.A) (hb : Binds X.K fd ps []) (tk : Takes X W) (he : PE X o (Vm.T g W A))
    (hl : 1 = n) {pl : Sem Bool} (ht : eval (.Call (.Attribute o m apos) [] [] pos) X.env = (do
      let ov ← eval o X.env
      standAt apos.atName
      let (f, first) ← holding [ov] (getMethod ov m pl); callWith pos f first (backTo pos (starEach [] X.env)) (backToKw pos (keywordEach [] X.env))) := by rfl) :
    PE X (.Call (.Attribute o m apos) [] [] pos) (Vm.T g W (mMeth c m d A lN)) := by
  refine PE.im (pe_methT0 he T hm F hr hb (fun σ => passAt tk σ) ht) fun σ H Q q => ?_
  refine At.seq (rel := Rl g) q fun ρ1 u s h1 vv H1 hs1 c1 r1 p1 => ?_
  cases ei : insOf c u h1 with
  | none => rw [ei] at p1; exact p1.elim
  | some nf' =>
    obtain ⟨kk, fs⟩ := nf'
    rw [ei] at p1
    simp only at p1
    obtain ⟨a, dx, gs, rfl, rfl, ea, rf, qa⟩ := insOf_ok c1 r1 ei
    cases el : fs.lookup m with
    | some w => rw [el] at p1; exact p1.elim
    | none =>
      rw [el] at p1
      exact ⟨a, dx, gs, rfl, qa, Rf.look0 rf el, hl, ρ1, [.loc kk], h1, .cons r1 .nil, c1, p1⟩
/-- e.f, a property -/
theorem e_prop {k : Nat} {pa fm : Addr} {fd : FuncData} {ps : List Str} {n : Nat} {d : List U → Mh → R U} (T : Cls X.K (g.cl c)) (hp : PropOf X.K (g.cl c) f pa fm) (F : FnOk X.prog X.w X.K X.mg X.base (L2.CX X.prog X.w) k fm fd ps (spM g n d)) (hr : Room (k + 1) X.A) (hb : Binds X.K fd ps []) (hn : 1 = n) (he : PE X e (Vm.T g W A)) (hab : attributeBase e f X.env (eval e X.env) = eval e X.env := by rfl) :
    PE X (.Attribute e f pos) (Vm.T g W (mProp c d A)) := by
  refine PE.im (pe_prop (X := X) (E := E0) (dvs := []) (ds := []) he T hp F hr hb .nil (fun pins σ H s er s' I h => passL (X := X.nox) pins σ H s er s' I h) hab) fun σ H Q q => At.seq (rel := Rl g) q fun ρ1 u s h1 vv H1 hs1 c1 r1 p1 => ?_
  cases ei : insOf c u h1 with
  | none => rw [ei] at p1; exact p1.elim
  | some nf' =>
    obtain ⟨kk, fs⟩ := nf'
    rw [ei] at p1
    simp only at p1
    obtain ⟨a, dx, gs, rfl, rfl, ea, rf, qa⟩ := insOf_ok c1 r1 ei
    refine ⟨a, dx, gs, rfl, qa, hn, ρ1, [.loc kk], h1, .cons r1 .nil, c1, ?_⟩
    cases ed : d [.loc kk] h1 with
    | ok w h2 => rw [ed] at p1; exact p1
    | ex cc ff h2 => rw [ed] at p1; exact p1.elim
    | stuck => rw [ed] at p1; exact p1.elim
/-! ### C(..) -/
def tMakeS (C : Addr) (sp : Sp) (E : L2.St → XK) (t : TA) : TE := fun σ H Q => t σ H fun vs H1 => ∀ x dx, H1 x = none → H1 dx = none → dx ≠ x →
  sp (.ref x :: vs) (upd (upd H1 dx (.own x)) x (.ins C dx [])) (fun v H2 => v = .non ∧ Q (.ref x) H2) (E σ)
theorem pe_makeT {CX : CXT} {k : Nat} {C fI : Addr} {fd : FuncData} {ps : List Str} {sp : Sp} {E : L2.St → XK} {t : TA} (M : Mk X.K C fI) (F : FnOk X.prog X.w X.K X.mg X.base CX k fI fd ps sp) (hr : Room (k + 1) X.A) (hg : Gl X x) (hm : X.mg x = some (.ref C)) (hb : Binds X.K fd ps []) (hx : ∀ σ, PassesAt CX X σ (E σ)) (ha : PA X (e :: es) t) (hdb : (x == ("__debug__" : Str)) = false := by decide) (he : starEach (e :: es) X.env = (false, eval e X.env) :: starEach es X.env := by rfl) (hpl : (backTo pos (starEach es X.env)).any (·.1) = false := by rfl) :
    PE X (.Call (.Name x p) (e :: es) [] pos) (tMakeS C sp E t) := by
  refine ⟨fun pins s σ H Q I h => ?_⟩; refine wpAny_Call_Name_kw (ld_glob I hg hm ?_ hdb)
  refine PySem.W.callWith_K (h₀ := X.base) I.ok.mod.kin M.kp (thn (ha.run pos pins s σ H _ I h) fun us s1 ⟨vs, H1, I1, r, h⟩ => ⟨I1.kIn, ?_⟩) he hpl
  show wpAny _ _ (call (.ref C) us) _ _ _; have hq := h (s1.heap.objs.size + 1) s1.heap.objs.size (I1.hok.fresh (Nat.le_succ _)) (I1.hok.fresh (Nat.le_refl _)) (Nat.ne_of_lt (Nat.lt_succ_self _))
  have I2 := Inv.made (C := C) I1
  have r2 : Vals (V.ref (s1.heap.objs.size + 1) :: vs) (Value.ref (s1.heap.objs.size + 1) :: us) := .cons rfl r
  have hl : (Value.ref (s1.heap.objs.size + 1) :: us ++ []).length = ps.length := by
    have e := r2.length
    rw [F.len _ _ _ _ hq] at e
    rw [List.append_nil]
    exact e.symm
  have b := hb { heap := _, gens := _, drawn := _, toks := _, os := _ } (Value.ref (s1.heap.objs.size + 1) :: us) I2.kIn hl
  rw [List.append_nil] at b
  refine wpAny_call (make_map (f := fI) I1.kIn M.makes M.init (beq_iff_eq.mp M.fn) (codeAny_mono (F.run _ X.stack _ _ ⟨Value.ref (s1.heap.objs.size + 1) :: us, []⟩ (Value.ref (s1.heap.objs.size + 1) :: us) _ _ (E σ) (hr.make C us [])
    (I2.env0.make C us []) b r2 hq) fun r s' hq' => ?_))
  cases r with
  | error e => exact hx σ pins _ _ e s' I2 hq'
  | ok fl =>
    cases fl with
    | ret u =>
      obtain ⟨v, H', I3, rv, ev, q3⟩ := I2.after hq'; subst ev
      exact ⟨rv, ⟨V.ref (s1.heap.objs.size + 1), H', I3, rfl, q3⟩⟩
    | next => exact hq'.elim
    | brk => exact False.elim hq'
    | cont => exact hq'.elim
theorem e_make {k : Nat} {fI : Addr} {fd : FuncData} {ps : List Str} {n : Nat} {d : List U → Mh → R U} (M : Mk X.K (g.cl c) fI) (F : FnOk X.prog X.w X.K X.mg X.base (L2.CX X.prog X.w) k fI fd ps (spM g n d)) (hr : Room (k + 1) X.A) (hg : Gl X x) (hm : X.mg x = some (.ref (g.cl c))) (hb : Binds X.K fd ps []) (tk : Takes X W)
    (ha : PA X (e :: es) (TL g W L)) (hl : ∀ s h xs h', L s h = .ok xs h' → xs.length + 1 = n) (hdb : (x == ("__debug__" : Str)) = false := by decide) (he : starEach (e :: es) X.env = (false, eval e X.env) :: starEach es X.env := by rfl) (hpl : (backTo pos (starEach es X.env)).any (·.1) = false := by rfl) :
    PE X (.Call (.Name x p) (e :: es) [] pos) (Vm.T g W (mMake c d L)) := by
  refine PE.im (pe_makeT M F hr hg hm hb (fun σ => passAt tk σ) ha hdb he hpl) fun σ H Q q => ?_
  obtain ⟨ρ, s, h, hs, cs, p⟩ := q
  refine ⟨ρ, s, h, hs, cs, ?_⟩
  unfold mMake at p
  cases eL : L s h with
  | ok us h1 =>
    rw [eL] at p
    intro ρ1 vs H1 e1 c1 r1 x dx hx hdx hne
    have c2 : Cs g ρ1 h1 (upd H1 dx (.own x)) := c1.skip hdx
    have hx2 : upd H1 dx (.own x) x = none := by rw [upd_ne hne.symm]; exact hx
    have c3 : Cs g (ρ1.snoc x) (h1 ++ [.ins c []]) (upd (upd H1 dx (.own x)) x (.ins (g.cl c) dx [])) := c2.new hx2 ⟨dx, [], .nil, upd_same⟩
    have ex : (ρ1.snoc x).as[h1.length]? = some x := new_get ρ1 x c1.len
    refine ⟨by rw [List.length_cons, ← Paired.length r1]; exact hl _ _ _ _ eL, (ρ1.snoc x), .loc h1.length :: us, _, .cons ⟨x, ex, rfl⟩ (Rls.mono (pre_snoc _ _) r1), c3, ?_⟩
    simp only [R.bind] at p
    cases ed : d (.loc h1.length :: us) (h1 ++ [.ins c []]) with
    | ok w h2 =>
      rw [ed] at p
      simp only at p
      cases w with
      | non =>
        intro ρ4 v4 H4 e4 c4 r4
        exact ⟨r4, p ρ4 (.ref x) H4 ((e1.trans (pre_snoc _ _)).trans e4) c4 ⟨x, pre_get e4 ex, rfl⟩⟩
      | _ => exact p.elim
    | ex cc ff h2 =>
      rw [ed] at p
      exact Xp.mono (e1.trans (pre_snoc _ _)) p
    | stuck => rw [ed] at p; exact p.elim
  | ex cc ff h1 => rw [eL] at p; exact p
  | stuck => rw [eL] at p; exact p.elim
end
/-! ### the law's own entry -/
theorem scr_of {g : Gc} {H : Hp} (h1 : Only H) (h2 : SqL g.K H g.sa (g.ns.map V.int)) : Scr g H := by
  rcases h2 with (e | ⟨o, e⟩) | k
  · rcases h1 g.sa with z | ⟨o, xs, z⟩
    · rw [z] at e; cases e
    · rw [z] at e; cases e
  · exact .inl ⟨o, e⟩
  · exact .inr k
def Wd.nil : Wd := ⟨[], fun _ => none, fun _ => none⟩
theorem Cs.start {cl : Nat → Addr} {K : PySem.W.Frag} {a : Addr} {ns : List Int} {H : Hp} (hO : Only H) (hS : SqL K H a (ns.map V.int)) : Cs ⟨cl, K, a, ns, none⟩ Wd.nil [] H :=
  ⟨rfl, fun n o b e => (by simp at e), List.nodup_nil, scr_of hO hS, fun _ _ _ e => (nomatch e), fun _ _ q => (nomatch q), fun _ _ q => (nomatch q), fun n o b e => (by simp at e), fun _ _ _ q => (nomatch q)⟩
def spLaw (K : PySem.W.Frag) : Sp := fun vs H Q _ => ∃ (a : Addr) (ns : List Int), vs = [.ref a] ∧ ns.length ≤ 63 ∧ Only H ∧ SqL K H a (ns.map V.int) ∧ ∀ H', Q (.bl true) H'
/-- the mirror's answer is True -/
def Yes (r : R U) : Prop := match r with
  | .ok (.bl true) _ => True
  | _ => False
theorem law_ok {P : Program} {w : World} {K : PySem.W.Frag} {mg : Str → Option Value} {base : Heap} {k : Nat} {f : Addr} {fd : FuncData} {d : List Int → List U → Mh → R U} (cl : Nat → Addr)
    (F : ∀ g : Gc, g.K = K → g.cl = cl → g.exn = none → FnOk P w K mg base (L2.CX P w) k f fd ["script"] (spM g 1 (d g.ns)))
    (y : ∀ ns : List Int, ns.length ≤ 63 → Yes (d ns [.scr] [])) : FnOk P w K mg base (L2.CX P w) k f fd ["script"] (spLaw K) := by
  refine ⟨fun vs H Q E h => ?_, fun A outer s H args us vs Q E hr he hb hv h => ?_⟩
  · obtain ⟨a, ns, rfl, _⟩ := h
    rfl
  · obtain ⟨a, ns, rfl, hl, hO, hS, q⟩ := h
    refine (F ⟨cl, K, a, ns, none⟩ rfl rfl rfl).run A outer s H args us [.ref a] Q E hr he hb hv ⟨rfl, Wd.nil, [.scr], [], .cons rfl .nil, Cs.start hO hS, ?_⟩
    have yy := y ns hl
    show Post _ _ _ (d ns [.scr] []) Q E
    cases e : d ns [.scr] [] with
    | ok u h =>
      rw [e] at yy
      cases u with
      | bl b =>
        cases b with
        | true =>
          intro ρ' v H' _ _ r
          have r' : v = .bl true := r
          subst r'
          exact q H'
        | false => exact yy.elim
      | _ => exact yy.elim
    | ex c f h => rw [e] at yy; exact yy.elim
    | stuck => rw [e] at yy; exact yy.elim
theorem walk_law {l : PySem.W.OpenLaw} {q : Program} {loose : List Str} {XP : (Str → Option Value) → Heap → Prop} {YP : World → Heap → Prop} {d : DefRec} {K : Params → PySem.W.Frag} {k : Nat} (hn : l.most = some 63) (hdf : d.params.defaults = []) (hr : Room k callerA) (hY : ∀ (w : World) (h : Heap), YP w h → (K w.params).In h) (F : ∀ (w : World) (mg : Str → Option Value) (fa : Addr) (h : Heap), (K w.params).In h → h.Ns mainGlobals mg → mg d.name = some (.ref fa) →
      ∃ fd : FuncData, (∀ (s : Shared) (u : Value), BindsTo s fd ⟨[u], []⟩ [("script", u)]) ∧ ∀ base : Heap, (K w.params).In base → base.Ns mainGlobals mg → FnOk l.prog w (K w.params) mg base (L2.CX l.prog w) k fa fd ["script"] (spLaw (K w.params))) : PySem.W.WalkO q loose XP YP l.row.toRowW d [] (fun f vs => PySem.call f vs) :=
  L2.walk_of (n := 63) (k := k) (x := "script") (CX := fun w => L2.CX l.prog w) (sp := fun w => spLaw (K w.params)) hn (by decide) hdf hr hY F (fun _ _ a ns hl hO hS => ⟨a, ns, rfl, hl, hO, hS, fun _ => rfl⟩) fun w H s e s' z => by
    obtain ⟨_, _, _, _, _, _, _, _, _, _, _, _, z⟩ := z
    exact z.elim
end Vm

set_option Elab.async false
set_option linter.all false
set_option maxRecDepth 100000
set_option maxHeartbeats 4100000
namespace Vm
open PySem PySem.Spec PyProof.Rows L2 PySem.W PySem.Calls PySem.HandSPX
/-! ### an own exception class called, also by name -/
section
variable {M : Model} {prog : Program} {w : World} {A : Around} {E : Value → Shared → Prop} {R : Result → Shared → Prop} {s : Shared} {kw : List (Str × Value)}
variable {nm q : Str} {C N : Addr} {bs bm : List Value} {hdct : Bool} {sn : List Str} {sub : List Value} {ab : Bool} {col : Option Bool} {dd : Option Addr} {k0 k1 k2 k3 k5 : Option Value} {B newId initId : String} {bB : List Value}
theorem chkN (F : ExcBaseFacts B newId initId bB) (hT : ∀ Y : String, bm.contains (.type Y) = bB.contains (.type Y)) {us : List Value} {Q : Unit → Shared → Prop} (hC : s.heap.get? C = some (excClassObj nm q C N bs bm hdct sn sub ab col dd k0 k1 k2 k3 k5 newId)) (z : Q () s) :
    wpAny M A (checkBuiltinCall newId ⟨.ref C :: us, kw⟩) Q E s := by
  obtain ⟨h, g, d, t, os⟩ := s
  have c1 : (Value.ref C :: bm).contains (.type B) = true := (List.contains_cons ..).trans (by rw [hT, F.hasB] <;> rfl)
  have c2 := F.noStar; simp only [checkBuiltinCall, F.newKind, F.newSplit, F.newRow]
  repeat (first | refine wpAny_loadPart_at hC ?_ | (refine wpAny_isSubtype_exc hC ?_; rw [c1]) | refine wpAny_staticBase_exc hC ?_ | refine wpAny_madeBy_exc hC ?_ | simp only [bne_self_eq_false, Bool.false_eq_true, if_false] | wp_step)
  exact z
theorem runN (F : ExcBaseFacts B newId initId bB) (hT : ∀ Y : String, bm.contains (.type Y) = bB.contains (.type Y)) {us : List Value} (hC : s.heap.get? C = some (excClassObj nm q C N bs bm hdct sn sub ab col dd k0 k1 k2 k3 k5 newId)) (hz : us.length ≤ sizeLine)
    (z : R (.ok (.ret (.ref (s.heap.objs.size + 1)))) { s with heap := (s.heap.push (kdv_tup us)).push (excO C s.heap.objs.size) }) : codeAny (model prog w) A (.builtin newId ⟨.ref C :: us, kw⟩) R s := by
  obtain ⟨h, g, d, t, os⟩ := s
  have c0 := F.ends
  have c1 : (Value.ref C :: bm).contains (.type B) = true := (List.contains_cons ..).trans (by rw [hT, F.hasB] <;> rfl)
  have c2 : (Value.ref C :: bm).contains (.type "AttributeError") = false := (List.contains_cons ..).trans (by rw [hT, F.noAttr] <;> rfl)
  have c3 : (Value.ref C :: bm).contains (.type "NameError") = false := (List.contains_cons ..).trans (by rw [hT, F.noName] <;> rfl)
  refine codeAny_builtinAt F.entry (PySem.wpAt_bind ?_)
  show PySem.wpAt _ _ _ (stack >>= _) _ _ _
  refine PySem.wpAt_bind (PySem.wpAt_stack fun p below => PySem.wpAt_of_wpAny ?_)
  wp_walk
  refine PySem.wpAt_of_wpAny ?_
  rw [F.owner]
  repeat (first | with_reducible refine wpAny_madeHere_exc F.canon hC ?_ | with_reducible refine wpAny_loadPart_at hC ?_ | (with_reducible refine wpAny_isSubtype_exc hC ?_; first | rw [c1] | rw [c2] | rw [c3]) | wp_step)
  show R _ _
  rw [Heap.size_push]
  exact z
theorem chkT {us : List Value} {Q : Unit → Shared → Prop} (hC : s.heap.get? C = some (excClassObj nm q C N bs bm hdct sn sub ab col dd k0 k1 k2 k3 k5 newId)) (z : Q () s) : wpAny M A (checkBuiltinCall "type.__call__" ⟨.ref C :: us, kw⟩) Q E s := by
  obtain ⟨h, g, d, t, os⟩ := s
  exact check_slot tc_kind tc_split ((Looks.ld hC).andThen (Looks.of_pure tc_sub)) (tc_args _ _ _) z
/-- what the class's own __init__ gives back -/
def InitK (p : Addr) (R : Result → Shared → Prop) : Result → Shared → Prop := fun r s' => match r with
  | .ok (.ret v) => v = .none ∧ R (.ok (.ret (.ref p))) s'
  | .ok _ => False
  | .error e => R (.error e) s'
theorem callC (F : ExcBaseFacts B newId initId bB) (hT : ∀ Y : String, bm.contains (.type Y) = bB.contains (.type Y)) {us : List Value} {fI : Addr} (hC : s.heap.get? C = some (excClassObj nm q C N bs bm hdct sn sub ab col dd k0 k1 k2 k3 k5 newId))
    (hi : W.Looks (model prog w) s.heap (typeLookup (.ref C) "__init__") (some (.ref fI))) (hb : ∀ self, W.Looks (model prog w) s.heap (bindSpecial (.ref fI) self) (.ref fI, [self])) (hz : us.length ≤ sizeLine)
    (z : codeAny (model prog w) (A.under (.builtin "type.__call__" ⟨.ref C :: us, kw⟩)) (.call (.ref fI) ⟨.ref (s.heap.objs.size + 1) :: us, kw⟩) (InitK (s.heap.objs.size + 1) R) { s with heap := (s.heap.push (kdv_tup us)).push (excO C s.heap.objs.size) }) :
    codeAny (model prog w) A (.call (.ref C) ⟨us, kw⟩) R s := by
  obtain ⟨h, g, d, t, os⟩ := s
  have f1 := tc_lookup
  have f2 := tc_bind (.ref C)
  have ty : (⟨h, g, d, t, os⟩ : Shared).TypeIs (.ref C) "type" := ⟨_, hC, rfl⟩
  refine codeAny_of_tree ?_; show wpAny _ _ (callAny (.ref C) _) _ _ _
  repeat any_goals first | assumption | with_reducible refine wpAny_loadPart_at hC ?_ | wp_step
  refine ⟨rfl, codeAny_call_builtin_at (Code.quiet_builtin _ (by decide +kernel)) entry_typeCall (chkT hC ?_)⟩
  repeat first | with_reducible refine wpAny_loadPart_at hC ?_ | with_reducible refine wpAny_madeBy_exc hC ?_ | wp_step
  refine codeAny_call_builtin_code (Code.quiet_builtin _ F.quiet) (chkN F hT hC (runN F hT hC hz ?_))
  change wpAny _ _ _ _ _ ⟨(h.push (kdv_tup us)).push (excO C h.objs.size), g, d, t, os⟩
  have up : ∀ b o, h.get? b = some o → ((h.push (kdv_tup us)).push (excO C h.objs.size)).get? b = some o := fun b o e => Heap.get?_push_of_some _ (Heap.get?_push_of_some _ e)
  have hC1 := up _ _ hC
  have he : ((h.push (kdv_tup us)).push (excO C h.objs.size)).get? (h.objs.size + 1) = some (excO C h.objs.size) := by heap_get
  have own : (Value.ref C :: bm).contains (.ref C) = true := by simp
  have i1 := hi.keeps up
  have b1 := (hb (.ref (h.objs.size + 1))).keeps up
  unfold isInstance
  repeat (first | with_reducible refine wpAny_loadPart_at he ?_ | (with_reducible refine wpAny_isSubtype_exc hC1 ?_; rw [own]) | wp_step)
  show wpAny _ _ (typeLookup (.ref C) _) _ _ _; refine i1.at (wpAny_holding (wpAny_bind (b1.at (wpAny_bind (wpAny_call (codeAny_mono z fun r s' y => ?_))))))
  rcases r with e | (v | _ | _ | _) <;> first | exact y | exact y.elim | skip
  obtain ⟨rfl, y⟩ := y
  first
    | exact wpAny_pure (wpAny_pure y)
    | (wp_walk; exact y)
end
end Vm

set_option Elab.async false
set_option linter.all false
set_option maxRecDepth 100000
set_option maxHeartbeats 4100000
namespace Vm
open L2 PyProof.Rows PySem PySem.Spec
/-! ### repr -/
/-- r stands for a wish on data read deep -/
def rRepr (K : PySem.W.Frag) : List V → Hp → VK → Prop := fun xs H Q => ∃ v d, xs = [v] ∧ Dp K H v d ∧ d.hasDict = false ∧ d.showable = true ∧ d.shown.length ≤ sizeLine ∧ d.depth ≤ 60 ∧ Q (.str d.shown) H
theorem call_reprD {X : Cx} (hg : X.A.guards = some []) (hu : X.A.units + 65 < cLine) : CallR X (.builtin "repr") (rRepr X.K) := by
  intro pins s σ H xs us Q I r ⟨v, d, ex, hd, nd, sh, sz, dp, q⟩
  subst ex
  obtain ⟨u, rfl, rv⟩ := vals1 r
  obtain ⟨as, rd⟩ := Dp.reads I d v u hd rv
  have fin : ∀ {t : Tok} {k : Nat}, EP X pins σ Q (.str d.shown t) { s with toks := k } := fun {t k} => ⟨.str d.shown, H, I.tok k, ⟨t, rfl⟩, q⟩
  cases rd with
  | none => exact PySem.P.repr_of_none fin
  | bool b =>
    refine PySem.P.repr_of_bool ?_
    cases b
    · exact fin
    · exact fin
  | int i t => exact PySem.P.repr_of_int (of_decide_eq_true sh) fin
  | str x t => exact PySem.P.repr_of_str fin sz
  | list e1 e2 e3 e4 => exact repr_of_reads' (.list e1 e2 e3 e4) sh (PyData.noDict_hsm nd) hg (by omega) (fun _ _ e => e) (fun h' u tk hk => ⟨.str _, H, I.kept (t' := tk) hk, ⟨u, rfl⟩, q⟩) sz
  | tuple e1 e2 e3 e4 => exact repr_of_reads' (.tuple e1 e2 e3 e4) sh (PyData.noDict_hsm nd) hg (by omega) (fun _ _ e => e) (fun h' u tk hk => ⟨.str _, H, I.kept (t' := tk) hk, ⟨u, rfl⟩, q⟩) sz
  | dict e1 e2 e3 e4 e5 => exact absurd nd (by unfold PyData.hasDict; decide)
def fRepr : List U → Mh → R U := fun us h => match us with
  | [x] => match rd h deep x with
    | some d => if !d.hasDict && d.showable && decide (d.shown.length ≤ 100000) && decide (d.depth ≤ 60) then .ok (.str d.shown) h else .stuck
    | none => .stuck
  | _ => .stuck
theorem s_repr {g : Gc} {K : PySem.W.Frag} (hK : K = g.K := by assumption) : SL g fRepr (rRepr K) := fun E ρ xs vs h H Q r cs p => by
  subst hK
  unfold fRepr at p
  split at p
  · rename_i x
    obtain ⟨v, rfl, r1⟩ := one_of r
    cases e : rd h deep x with
    | none => rw [e] at p; exact p.elim
    | some d =>
      rw [e] at p
      simp only at p
      split at p
      · rename_i c
        simp only [Bool.and_eq_true, Bool.not_eq_true', decide_eq_true_eq] at c
        exact ⟨v, d, rfl, rd_dp cs _ _ _ _ r1 e, c.1.1.1, c.1.1.2, big_line c.1.2, c.2, Post.here (rel := Rl g) p cs rfl⟩
      · exact p.elim
  · exact p.elim
/-! ### exceptions as values -/
section
variable {X : Cx} {g : Gc} {W : WX} {A : Me} {e : Expr} {pos : Pos} {pins : List (Addr × Obj)} {σ : L2.St} {H : Hp} {s : Shared}
/-- a class with its own __init__ of one field, called at what stands -/
theorem exn_run {C fI : Addr} {f : Str} {fd : FuncData} {k : Nat} {us : List Value} {kw : List (Str × Value)} {y : V} {u : Value} {Q : VK} (T : OexC X.K C) (nf : PySem.W.findIn X.K (.ref C) f = some none) (iC : PySem.W.findIn X.K (.ref C) "__init__" = some (some (.ref fI))) (tI : PySem.W.typeIn X.K (.ref fI) = some (.type "function"))
    (F : FnOk X.prog X.w X.K X.mg X.base (L2.CX X.prog X.w) k fI fd ["self", f] (spI X.K f)) (hr : Room (k + 1) X.A) (hx : Passes (L2.CX X.prog X.w) X (fun _ _ _ => False)) (hz : us.length ≤ sizeLine)
    (bt : ∀ (s : Shared) (p : Value), X.K.In s.heap → BindsTo s fd ⟨p :: us, kw⟩ ((["self", f] : List Str).zip [p, u])) (I : Inv X pins σ H s) (r : RelV y u) (q : ∀ a dx, H a = none → H dx = none → dx ≠ a → Q (.ref a) (upd (upd H dx (exd dx [(f, y)])) a (exo a C (some dx)))) :
    wpAny (model X.prog X.w) X.A (call (.ref C) us kw) (EP X pins σ Q) X.xe s := by
  obtain ⟨nm, qn, N, bs, bm, sn, sub, ab, col, dd, k0, k1, k2, k3, k5, hC, hbm⟩ := T.cls
  obtain ⟨hp, g0, d0, t0, o0⟩ := s
  have sz : hp.objs.size ≤ hp.objs.size + 1 := Nat.le_succ _
  have ha : H (hp.objs.size + 1) = none := I.hok.fresh sz
  have up : ∀ b o, hp.get? b = some o → ((hp.push (PySem.W.kdv_tup us)).push (PySem.HandSPX.excO C hp.objs.size)).get? b = some o := fun b o e => Heap.get?_push_of_some _ (Heap.get?_push_of_some _ e)
  have he : ((hp.push (PySem.W.kdv_tup us)).push (PySem.HandSPX.excO C hp.objs.size)).get? (hp.objs.size + 1) = some (PySem.HandSPX.excO C hp.objs.size) := by heap_get
  have I2 := I.laid (t' := t0) (a := hp.objs.size + 1) (o := exo (hp.objs.size + 1) C none) up sz (exo_ok he)
  have hs : spI X.K f [.ref (hp.objs.size + 1), y] (upd H (hp.objs.size + 1) (exo (hp.objs.size + 1) C none)) (fun v H' => v = .non ∧ Q (.ref (hp.objs.size + 1)) H') (fun _ _ _ => False) := by
    refine ⟨_, C, y, rfl, T, nf, upd_same, fun dx n ne => ⟨rfl, ?_⟩⟩
    rw [upd_ne ne] at n
    have z := q _ dx ha n ne
    have e : upd (upd (upd H (hp.objs.size + 1) (exo (hp.objs.size + 1) C none)) dx (exd dx [(f, y)])) (hp.objs.size + 1) (exo (hp.objs.size + 1) C (some dx)) = upd (upd H dx (exd dx [(f, y)])) (hp.objs.size + 1) (exo (hp.objs.size + 1) C (some dx)) := by
      funext b
      by_cases h1 : b = hp.objs.size + 1
      · rw [h1, upd_same, upd_same]
      · by_cases h2 : b = dx
        · rw [h2, upd_ne ne, upd_ne ne, upd_same, upd_same]
        · rw [upd_ne h1, upd_ne h1, upd_ne h2, upd_ne h2, upd_ne h1]
    rw [e]
    exact z
  refine wpAny_call (callC PySem.F.excBase_ValueError (fun Y => PySem.HandSPX.refsVE_contains Y bm hbm) (I.kIn _ _ hC) (PySem.W.looks_findIn I.kIn iC) (fun self => PySem.W.bind_fn I.kIn self tI) hz ?_)
  refine codeAny_mono (F.run _ X.stack _ _ ⟨Value.ref (hp.objs.size + 1) :: us, kw⟩ [Value.ref (hp.objs.size + 1), u] [.ref (hp.objs.size + 1), y] _ _ (hr.make C us kw) (I2.env0.make C us kw) (bt _ _ I2.kIn) (.cons rfl (.cons r .nil)) hs) fun r s' z => ?_
  cases r with
  | error er => exact hx pins σ _ _ er s' I2 z
  | ok fl =>
    cases fl with
    | ret w =>
      obtain ⟨v, H', J, rv, ev, q3⟩ := I2.after z
      subst ev
      exact ⟨rv, ⟨V.ref (hp.objs.size + 1), H', J, rfl, q3⟩⟩
    | next => exact False.elim z
    | brk => exact False.elim z
    | cont => exact False.elim z
end
end Vm

set_option Elab.async false
set_option linter.all false
set_option maxRecDepth 100000
set_option maxHeartbeats 4100000
namespace Vm
open L2 PyProof.Rows PySem PySem.Spec
section
variable {X : Cx} {g : Gc} {W : WX} {A : Me} {e : Expr} {pos : Pos} {pins : List (Addr × Obj)} {σ : L2.St} {H : Hp} {s : Shared}
/-- what it comes to -/
def exnW (C : Addr) (f : Str) (Q : VK) (y : V) (H1 : Hp) : Prop := ∀ a dx, H1 a = none → H1 dx = none → dx ≠ a → Q (.ref a) (upd (upd H1 dx (exd dx [(f, y)])) a (exo a C (some dx)))
def exnWs (C : Addr) (f : Str) (Q : VK) : List V → Hp → Prop := fun vs H1 => match vs with
  | [y] => exnW C f Q y H1
  | _ => False
theorem exnWs_one {C : Addr} {f : Str} {Q : VK} {vs : List V} {H1 : Hp} (q : exnWs C f Q vs H1) : ∃ y, vs = [y] ∧ exnW C f Q y H1 := by
  match vs, q with
  | [y], q => exact ⟨y, rfl, q⟩
theorem one_line : 1 ≤ sizeLine := big_line (by decide)
def tExn (C : Addr) (f : Str) (te : TE) : TE := fun σ H Q => te σ H fun y H1 => exnW C f Q y H1
theorem pe_exnP {C fI : Addr} {x f : Str} {fd : FuncData} {k : Nat} {te : TE} {p : Pos} (T : Xc1 X.K X.mg x f C fI) (F : FnOk X.prog X.w X.K X.mg X.base (L2.CX X.prog X.w) k fI fd ["self", f] (spI X.K f)) (hr : Room (k + 1) X.A) (hx : Passes (L2.CX X.prog X.w) X (fun _ _ _ => False))
    (hb : Binds X.K fd ["self", f] []) (hg : Gl X x) (ha : PE X e te) (hst : starEach [e] X.env = (false, eval e X.env) :: starEach [] X.env := by rfl) (hpl : (backTo pos (starEach ([] : List Expr) X.env)).any (·.1) = false := by rfl) (hdb : (x == ("__debug__" : Str)) = false := by decide) :
    PE X (.Call (.Name x p) [e] [] pos) (tExn C f te) := by
  refine ⟨fun pins s σ H Q I h => wpAny_Call_Name_kw (ld_glob I hg T.gC ?_ hdb)⟩
  refine PySem.W.callWith_K (h₀ := X.base) I.ok.mod.kin T.ox.kC (thn ((pa_cons ha pa_nil hst).run pos pins s σ H (exnWs C f Q) I h) fun us s1 ⟨vs, H1, I1, r, q⟩ => ⟨I1.kIn, ?_⟩) hst hpl
  obtain ⟨y, rfl, q⟩ := exnWs_one q
  obtain ⟨u, rfl, r1⟩ := vals1 r
  have bt : ∀ (s : Shared) (p : Value), X.K.In s.heap → BindsTo s fd ⟨[p, u], []⟩ ((["self", f] : List Str).zip [p, u]) := fun s p h => hb s [p, u] h rfl
  have hz : [u].length ≤ sizeLine := one_line
  exact exn_run (us := [u]) (kw := []) T.ox T.nf T.iC T.tI F hr hx hz bt I1 r1 q
end
end Vm

set_option Elab.async false
set_option linter.all false
set_option maxRecDepth 100000
set_option maxHeartbeats 4100000
namespace Vm
open L2 PyProof.Rows PySem PySem.Spec
section
variable {X : Cx} {g : Gc} {W : WX} {A : Me} {e : Expr} {pos : Pos} {pins : List (Addr × Obj)} {σ : L2.St} {H : Hp} {s : Shared}
theorem pe_exnK {C fI : Addr} {x f : Str} {fd : FuncData} {k : Nat} {te : TE} {p kp : Pos} (T : Xc1 X.K X.mg x f C fI) (F : FnOk X.prog X.w X.K X.mg X.base (L2.CX X.prog X.w) k fI fd ["self", f] (spI X.K f)) (hr : Room (k + 1) X.A) (hx : Passes (L2.CX X.prog X.w) X (fun _ _ _ => False))
    (hb : ∀ (s : Shared) (p u : Value), X.K.In s.heap → BindsTo s fd ⟨[p], [(f, u)]⟩ ((["self", f] : List Str).zip [p, u])) (hg : Gl X x) (ha : PE X e te) (hdb : (x == ("__debug__" : Str)) = false := by decide)
    (hall : (backToKw pos (keywordEach [⟨some f, e, kp⟩] X.env)).all (·.1.isSome) = true := by rfl) (hks : (backToKw pos (keywordEach [⟨some f, e, kp⟩] X.env)).filterMap (·.1) = [f] := by rfl)
    (hpl : ((backTo pos (starEach [] X.env)).any (·.1) || (backToKw pos (keywordEach [⟨some f, e, kp⟩] X.env)).any (·.1.isNone)) = false := by rfl) :
    PE X (.Call (.Name x p) [] [⟨some f, e, kp⟩] pos) (tExn C f te) := by
  refine ⟨fun pins s σ H Q I h => wpAny_Call_Name_kw (ld_glob I hg T.gC ?_ hdb)⟩
  refine PySem.W.callWith_KW0 (h₀ := X.base) I.ok.mod.kin T.ox.kC hall (thn ((pk_cons ha pk_nil).run pos pins s σ H (exnWs C f Q) I h) fun us s1 ⟨vs, H1, I1, r, q⟩ => ⟨I1.kIn, ?_⟩) hpl
  rw [hks]
  obtain ⟨y, rfl, q⟩ := exnWs_one q
  obtain ⟨u, rfl, r1⟩ := vals1 r
  have bt : ∀ (s : Shared) (p : Value), X.K.In s.heap → BindsTo s fd ⟨[p], [(f, u)]⟩ ((["self", f] : List Str).zip [p, u]) := fun s p h => hb s p u h
  have hz : ([] : List Value).length ≤ sizeLine := Nat.zero_le _
  exact exn_run (us := []) (kw := [(f, u)]) T.ox T.nf T.iC T.tI F hr hx hz bt I1 r1 q
end
end Vm

set_option Elab.async false
set_option linter.all false
set_option maxRecDepth 100000
set_option maxHeartbeats 4100000
namespace Vm
open L2 PyProof.Rows PySem PySem.Spec
section
variable {X : Cx} {g : Gc} {W : WX} {A : Me} {e : Expr} {pos : Pos} {pins : List (Addr × Obj)} {σ : L2.St} {H : Hp} {s : Shared}
/-- X(), no own __init__ -/
def tExn0 (C : Addr) : TE := fun σ H Q => ∀ a, H a = none → Q (.ref a) (upd H a (exo a C none))
theorem pe_exn0 {C : Addr} {x : Str} {p : Pos} (T : Xc0 X.K X.mg x C) (hg : Gl X x) (hdb : (x == ("__debug__" : Str)) = false := by decide) : PE X (.Call (.Name x p) [] [] pos) (tExn0 C) := by
  refine ⟨fun pins s σ H Q I h => wpAny_Call_Name_kw (ld_glob I hg T.gC (PySem.W.callWith_K0 I.kIn T.kC ?_) hdb)⟩
  show wpAny _ _ (call (.ref C) []) _ _ _
  obtain ⟨bm, N, nm, qn, bs, hdct, sn, sub, ab, col, dd, k0, k1, k2, k3, k5, mN, hC, hN, hni, Z⟩ := exc_obj I.kIn T.xP
  refine wpAny_call_exc_subT PySem.F.excBase_ValueError Z hC hN hni (fun h' a hm => ?_) (Nat.zero_le _)
  have hn : H a = none := I.hok.gone hm.new
  obtain ⟨t, ht, _, _⟩ := hm.there; exact ⟨.ref a, _, I.laidN hm.keeps hm.new hn (exo_ok ht), rfl, h a hn⟩
end
end Vm

set_option Elab.async false
set_option linter.all false
set_option maxRecDepth 100000
set_option maxHeartbeats 4100000
namespace Vm
open L2 PyProof.Rows PySem PySem.Spec
section
variable {X : Cx} {g : Gc} {W : WX} {A : Me} {e : Expr} {pos : Pos} {pins : List (Addr × Obj)} {σ : L2.St} {H : Hp} {s : Shared}
/-- mirrors -/
def mExn (c : Nat) (f : Str) (a : Me) : Me := fun s h => (a s h).bind fun u h1 => newO (.exc c [(f, u)]) h1
def mExn0 (c : Nat) : Me := fun _ h => newO (.exc c []) h
theorem exn_read {c : Nat} {f : Str} {σ : L2.St} {Q : VK} (q : At g (Rl g) (mExn c f A) (WE W σ) σ H Q) : tExn (g.cl c) f (Vm.T g W A) σ H Q := by
  refine At.seq (rel := Rl g) q fun ρ1 u s h1 y H1 hs1 c1 r1 p1 a dx ha hd hne => ?_
  have c2 : Cs g ρ1 h1 (upd H1 dx (exd dx [(f, y)])) := c1.skip hd
  have ha2 : upd H1 dx (exd dx [(f, y)]) a = none := by rw [upd_ne (Ne.symm hne)]; exact ha
  exact Post.made p1 c2 ha2 (.inr ⟨dx, [(f, y)], .cons ⟨rfl, Rl.mono (pre_snoc _ _) r1⟩ .nil, upd_same, by rw [upd_ne hne, upd_same]⟩)
theorem e_exnP {c : Nat} {fI : Addr} {x f : Str} {fd : FuncData} {k : Nat} {p : Pos} (T : Xc1 X.K X.mg x f (g.cl c) fI) (F : FnOk X.prog X.w X.K X.mg X.base (L2.CX X.prog X.w) k fI fd ["self", f] (spI X.K f)) (hr : Room (k + 1) X.A) (hx : Passes (L2.CX X.prog X.w) X (fun _ _ _ => False))
    (hb : Binds X.K fd ["self", f] []) (hg : Gl X x) (ha : PE X e (Vm.T g W A)) (hst : starEach [e] X.env = (false, eval e X.env) :: starEach [] X.env := by rfl) (hpl : (backTo pos (starEach ([] : List Expr) X.env)).any (·.1) = false := by rfl) (hdb : (x == ("__debug__" : Str)) = false := by decide) :
    PE X (.Call (.Name x p) [e] [] pos) (Vm.T g W (mExn c f A)) := PE.im (pe_exnP T F hr hx hb hg ha hst hpl hdb) fun _ _ _ q => exn_read q
theorem e_exnK {c : Nat} {fI : Addr} {x f : Str} {fd : FuncData} {k : Nat} {p kp : Pos} (T : Xc1 X.K X.mg x f (g.cl c) fI) (F : FnOk X.prog X.w X.K X.mg X.base (L2.CX X.prog X.w) k fI fd ["self", f] (spI X.K f)) (hr : Room (k + 1) X.A) (hx : Passes (L2.CX X.prog X.w) X (fun _ _ _ => False))
    (hb : ∀ (s : Shared) (p u : Value), X.K.In s.heap → BindsTo s fd ⟨[p], [(f, u)]⟩ ((["self", f] : List Str).zip [p, u])) (hg : Gl X x) (ha : PE X e (Vm.T g W A)) (hdb : (x == ("__debug__" : Str)) = false := by decide)
    (hall : (backToKw pos (keywordEach [⟨some f, e, kp⟩] X.env)).all (·.1.isSome) = true := by rfl) (hks : (backToKw pos (keywordEach [⟨some f, e, kp⟩] X.env)).filterMap (·.1) = [f] := by rfl)
    (hpl : ((backTo pos (starEach [] X.env)).any (·.1) || (backToKw pos (keywordEach [⟨some f, e, kp⟩] X.env)).any (·.1.isNone)) = false := by rfl) :
    PE X (.Call (.Name x p) [] [⟨some f, e, kp⟩] pos) (Vm.T g W (mExn c f A)) := PE.im (pe_exnK T F hr hx hb hg ha hdb hall hks hpl) fun _ _ _ q => exn_read q
theorem e_exn0 {c : Nat} {x : Str} {p : Pos} (T : Xc0 X.K X.mg x (g.cl c)) (hg : Gl X x) (hdb : (x == ("__debug__" : Str)) = false := by decide) : PE X (.Call (.Name x p) [] [] pos) (Vm.T g W (mExn0 c)) :=
  PE.im (pe_exn0 T hg hdb) fun σ H Q ⟨ρ, s, h, hs, cs, p⟩ a ha => Post.made p cs ha (.inl ⟨rfl, upd_same⟩)
end
end Vm

set_option Elab.async false
set_option linter.all false
set_option maxRecDepth 100000
set_option maxHeartbeats 4100000
namespace Vm
open L2 PyProof.Rows PySem PySem.Spec
section
variable {X : Cx} {g : Gc} {W : WX} {A : Me} {e : Expr} {pos : Pos} {ρ : Wd} {h : Mh} {H : Hp}
/-! ### fields of exceptions, isinstance of them -/
def excOf (u : U) (h : Mh) : Option (Nat × List (Str × U)) := match u with
  | .loc n => match h[n]? with
    | some (.exc c fs) => some (c, fs)
    | _ => none
  | _ => none
theorem excOf_ok {u : U} {v : V} {c : Nat} {fs : List (Str × U)} (cs : Cs g ρ h H) (r : Rl g ρ u v) (e : excOf u h = some (c, fs)) :
    ∃ a, v = .ref a ∧ ((fs = [] ∧ H a = some (exo a (g.cl c) none)) ∨ ∃ dx gs, Rf g ρ fs gs ∧ H a = some (exo a (g.cl c) (some dx)) ∧ H dx = some (exd dx gs)) := by
  cases u with
  | loc n =>
    obtain ⟨a, q, rfl⟩ := r
    simp only [excOf] at e
    split at e
    · rename_i c' fs' en
      cases e
      exact ⟨a, rfl, cs.at_ n _ a en q⟩
    · cases e
  | _ => cases e
def tExnF (K : PySem.W.Frag) (n : Str) (te : TE) : TE := fun σ H Q => te σ H fun x H1 => ∃ (a C dx : Addr) (fs : List (Str × V)) (v : V), x = .ref a ∧ XfC K C ∧ PySem.W.findIn K (.ref C) n = some none ∧ H1 a = some (exo a C (some dx)) ∧ H1 dx = some (exd dx fs) ∧ fs.lookup n = some v ∧ Q v H1
theorem pe_exnF {n : Str} {te : TE} (he : PE X e te) (hb : attributeBase e n X.env (eval e X.env) = eval e X.env := by rfl) : PE X (.Attribute e n pos) (tExnF X.K n te) := by
  refine ⟨fun pins s σ H Q I h => attr_of hb (thn (he.run pins s σ H _ I h) fun u s1 hh => ?_)⟩
  obtain ⟨x, H1, I1, rx, a, C, dx, fs, v, rfl, T, hno, ea, ed, l, q⟩ := hh
  obtain rfl : u = Value.ref a := rx; obtain ⟨t1, ho⟩ := exo_at I1.hok ea
  obtain ⟨mA, hns, hr⟩ := exd_at I1.hok ed
  obtain ⟨od, hd, hl⟩ := lookIn_ns hns
  obtain ⟨w, hw, rw'⟩ := RelO.some_of (v := v) (o := mA n) (by rw [← l]; exact hr n)
  have J : PySem.W.InstAt s1.heap a { cls := .ref C, dict := some dx, data := .fields #[.ref t1, .none, .none, .none, .bool false, .none] } C (some od) := ⟨ho, rfl, rfl, hd⟩
  exact PySem.HandSPX.exc_get I1.kIn J T.ga T.gg T.exC (PySem.W.findObj_own T.hdC hno rfl (by rw [hl, hw])) (handed_of rw') ⟨v, H1, I1.tok _, rw', q⟩
/-- ok: the classes whose instances may be asked -/
def mExnF (ok : Nat → Bool) (n : Str) (a : Me) : Me := fun s h => (a s h).bind fun u h1 => match excOf u h1 with
  | some (c, fs) => if ok c then (match fs.lookup n with | some w => .ok w h1 | none => .stuck) else .stuck
  | none => .stuck
theorem e_exnF {ok : Nat → Bool} {n : Str} (T : ∀ c, ok c = true → XfC X.K (g.cl c) ∧ PySem.W.findIn X.K (.ref (g.cl c)) n = some none) (he : PE X e (Vm.T g W A)) (hb : attributeBase e n X.env (eval e X.env) = eval e X.env := by rfl) :
    PE X (.Attribute e n pos) (Vm.T g W (mExnF ok n A)) := by
  refine PE.im (pe_exnF he hb) fun σ H Q q => At.seq (rel := Rl g) q fun ρ1 u s h1 v H1 hs1 c1 r1 p1 => ?_
  cases ee : excOf u h1 with
  | none => rw [ee] at p1; exact p1.elim
  | some cf =>
    obtain ⟨c, fs⟩ := cf
    rw [ee] at p1
    simp only at p1
    obtain ⟨a, rfl, z⟩ := excOf_ok c1 r1 ee
    cases hk : ok c with
    | false => rw [hk] at p1; exact p1.elim
    | true =>
      rw [hk, if_pos rfl] at p1
      cases el : fs.lookup n with
      | none => rw [el] at p1; exact p1.elim
      | some w =>
        rw [el] at p1
        rcases z with ⟨rfl, _⟩ | ⟨dx, gs, rf, ea, ed⟩
        · cases el
        · obtain ⟨vv, ev, rv⟩ := Rf.look rf el
          exact ⟨a, g.cl c, dx, gs, vv, rfl, (T c hk).1, (T c hk).2, ea, ed, ev, Post.here (rel := Rl g) p1 c1 rv⟩
/-- an exception of the class C stands at a -/
def ExAt (H : Hp) (C a : Addr) : Prop := H a = some (exo a C none) ∨ ∃ dx gs, H a = some (exo a C (some dx)) ∧ H dx = some (exd dx gs)
theorem ExAt.inst {X : Cx} {pins : List (Addr × Obj)} {σ : L2.St} {s : Shared} {C a : Addr} (I : Inv X pins σ H s) (z : ExAt H C a) : ∃ ox od, PySem.W.InstAt s.heap a ox C od := by
  rcases z with ea | ⟨dx, gs, ea, ed⟩
  · obtain ⟨t1, ho⟩ := exo_at I.hok ea
    exact ⟨_, none, ho, rfl, rfl, trivial⟩
  · obtain ⟨t1, ho⟩ := exo_at I.hok ea
    obtain ⟨mA, hns, _⟩ := exd_at I.hok ed
    obtain ⟨od, hd, _⟩ := lookIn_ns hns
    exact ⟨_, some od, ho, rfl, rfl, hd⟩
theorem cls_some {K : PySem.W.Frag} {C : Addr} (h : PySem.W.hasDictIn K C = true) : (PySem.W.clsIn K C).isSome = true := by
  obtain ⟨cd, hc, _⟩ := PySem.W.any_some h
  rw [hc] <;> rfl
/-- isinstance(x, C), x an exception -/
def rIsX (K : PySem.W.Frag) : List V → Hp → VK → Prop := fun xs H Q => ∃ (a C : Addr) (c : V) (cv : Value) (b : Bool), xs = [.ref a, c] ∧ ExcC K C ∧ ExAt H C a ∧ (∀ u, RelV c u → u = cv) ∧ PySem.W.kitOne K (.ref C) cv = some b ∧ Q (.bl b) H
theorem call_isX : CallR X (.builtin "isinstance") (rIsX X.K) := by
  intro pins s σ H xs us Q I r ⟨a, C, c, cv, b, ex, T, ea, hc, k, q⟩
  subst ex
  obtain ⟨u1, u2, rfl, r1, r2⟩ := vals2 r; obtain rfl : u1 = Value.ref a := r1
  obtain rfl := hc _ r2
  obtain ⟨ox, od, J⟩ := ea.inst I
  exact PySem.W.kia_one (PySem.W.kitx_exc (cls_some T.hd) T.hg T.hk T.hs T.ha T.hn T.ht T.hm) I.kIn J k (fun z => nomatch z) fun tk => ⟨.bl b, H, I.tok tk, rfl, q⟩
/-- isinstance(x, (C1, ..)) -/
def rIsXT (K : PySem.W.Frag) : List V → Hp → VK → Prop := fun xs H Q => ∃ (a C : Addr) (tp : Addr) (cs : List V) (ws : List Value) (b : Bool), xs = [.ref a, .ref tp] ∧ ExcC K C ∧ ExAt H C a ∧ H tp = some (.tup cs) ∧ Paired ClsV cs ws ∧ PySem.W.kitAny K (.ref C) ws = some b ∧ Q (.bl b) H
theorem call_isXT : CallR X (.builtin "isinstance") (rIsXT X.K) := by
  intro pins s σ H xs us Q I r ⟨a, C, tp, cs, ws, b, ex, T, ea, hT, kc, k, q⟩
  subst ex
  obtain ⟨u1, u2, rfl, r1, r2⟩ := vals2 r; obtain rfl : u1 = Value.ref a := r1
  obtain rfl : u2 = Value.ref tp := r2
  obtain ⟨ox, od, J⟩ := ea.inst I
  obtain ⟨_, its, rv, o, h1, h2, n, h3⟩ := (show ObjOk X.prog X.w H s.heap tp (.tup cs) from I.hok tp _ hT); obtain rfl := ClsV.all kc rv
  obtain ⟨oc, od', dt, sl⟩ := o
  simp only at h2 h3
  subst h2 h3
  exact PySem.W.kia_tup (PySem.W.kitx_exc (cls_some T.hd) T.hg T.hk T.hs T.ha T.hn T.ht T.hm) I.kIn J h1 k (fun z => nomatch z) fun tk => ⟨.bl b, H, I.tok tk, rfl, q⟩
/-- tk: the answer, class by class -/
def mIsE (tk : Nat → Option Bool) (a : Me) : Me := fun s h => (a s h).bind fun u h1 => match excOf u h1 with
  | some (c, _) => (match tk c with | some b => .ok (.bl b) h1 | none => .stuck)
  | none => .stuck
theorem isE_read {tk : Nat → Option Bool} {u : U} {v : V} {E : XK} {Q : VK} (r : Rl g ρ u v) (cs : Cs g ρ h H) (p : Post g (Rl g) ρ (match excOf u h with | some (c, _) => (match tk c with | some b => R.ok (.bl b) h | none => .stuck) | none => .stuck) Q E) :
    ∃ a c b, v = .ref a ∧ tk c = some b ∧ ExAt H (g.cl c) a ∧ Post g (Rl g) ρ (R.ok (.bl b) h) Q E := by
  cases ee : excOf u h with
  | none => rw [ee] at p; exact p.elim
  | some cf =>
    obtain ⟨c, fs⟩ := cf
    rw [ee] at p
    simp only at p
    obtain ⟨a, rfl, z⟩ := excOf_ok cs r ee
    cases hk : tk c with
    | none => rw [hk] at p; exact p.elim
    | some b =>
      rw [hk] at p
      rcases z with ⟨_, ea⟩ | ⟨dx, gs, _, ea, ed⟩
      · exact ⟨a, c, b, rfl, hk, .inl ea, p⟩
      · exact ⟨a, c, b, rfl, hk, .inr ⟨dx, gs, ea, ed⟩, p⟩
theorem e_isE {tk : Nat → Option Bool} {p pc : Pos} {x : Str} {vc : V} {cv : Value} (hg : Gl X "isinstance") (hm : X.mg "isinstance" = none) (hc : PE X (.Name x pc) (tC vc)) (hv : ∀ u, RelV vc u → u = cv) (T : ∀ c b, tk c = some b → ExcC X.K (g.cl c) ∧ PySem.W.kitOne X.K (.ref (g.cl c)) cv = some b) (he : PE X e (Vm.T g W A))
    (hst : starEach [e, .Name x pc] X.env = (false, eval e X.env) :: starEach [.Name x pc] X.env := by rfl) (hst2 : starEach [Expr.Name x pc] X.env = (false, eval (.Name x pc) X.env) :: starEach [] X.env := by rfl)
    (hpl : (backTo pos (starEach [Expr.Name x pc] X.env)).any (·.1) = false := by rfl) :
    PE X (.Call (.Name "isinstance" p) [e, .Name x pc] [] pos) (Vm.T g W (mIsE tk A)) := by
  refine PE.im (pe_callB call_isX hg hm PyProof.Rows.boot_isinstance (pa_cons he (pa_cons hc pa_nil hst2) hst) (by decide) (by decide) hst hpl) fun σ H Q q => At.seq (rel := Rl g) q fun ρ1 u s h1 v H1 hs1 c1 r1 p1 => ?_
  obtain ⟨a, c, b, rfl, hk, ea, p2⟩ := isE_read r1 c1 p1
  exact ⟨a, g.cl c, vc, cv, b, rfl, (T c b hk).1, ea, hv, (T c b hk).2, Post.here (rel := Rl g) p2 c1 rfl⟩
def tConst (vs : List V) : TA := fun σ H Q => Q vs H
theorem e_isET {tk : Nat → Option Bool} {p tpos : Pos} {es : List Expr} {x1} {vs : List V} {ws : List Value} (hg : Gl X "isinstance") (hm : X.mg "isinstance" = none) (hc : PA X es (tConst vs)) (hv : Paired ClsV vs ws) (hl : vs.length ≤ 100000) (T : ∀ c b, tk c = some b → ExcC X.K (g.cl c) ∧ PySem.W.kitAny X.K (.ref (g.cl c)) ws = some b) (he : PE X e (Vm.T g W A))
    (hst : starEach [e, .Tuple es x1 tpos] X.env = (false, eval e X.env) :: starEach [.Tuple es x1 tpos] X.env := by rfl) (hst2 : starEach [Expr.Tuple es x1 tpos] X.env = (false, eval (.Tuple es x1 tpos) X.env) :: starEach [] X.env := by rfl)
    (hpl : (backTo pos (starEach [Expr.Tuple es x1 tpos] X.env)).any (·.1) = false := by rfl) :
    PE X (.Call (.Name "isinstance" p) [e, .Tuple es x1 tpos] [] pos) (Vm.T g W (mIsE tk A)) := by
  refine PE.im (pe_callB call_isXT hg hm PyProof.Rows.boot_isinstance (pa_cons he (pa_cons (pe_tup hc) pa_nil hst2) hst) (by decide) (by decide) hst hpl) fun σ H Q q => At.seq (rel := Rl g) q fun ρ1 u s h1 v H1 hs1 c1 r1 p1 => ?_
  obtain ⟨a, c, b, rfl, hk, ea, p2⟩ := isE_read r1 c1 p1
  refine ⟨big_line hl, fun tp ht => ?_⟩
  have ea' : ExAt (upd H1 tp (.tup vs)) (g.cl c) a := by
    rcases ea with ea | ⟨dx, gs, ea, ed⟩
    · refine .inl ?_
      rw [upd_ne fun z => by rw [z, ht] at ea; cases ea]
      exact ea
    · refine .inr ⟨dx, gs, ?_, ?_⟩
      · rw [upd_ne fun z => by rw [z, ht] at ea; cases ea]
        exact ea
      · rw [upd_ne fun z => by rw [z, ht] at ed; cases ed]
        exact ed
  exact ⟨a, g.cl c, tp, vs, ws, b, rfl, (T c b hk).1, ea', upd_same, hv, (T c b hk).2, Post.here (rel := Rl g) p2 (c1.skip ht) rfl⟩
end
end Vm

set_option Elab.async false
set_option linter.all false
set_option maxRecDepth 100000
set_option maxHeartbeats 4100000
namespace Vm
open L2 PyProof.Rows PySem PySem.Spec
/-! ### the law's own entry, where nothing is being shown as text -/
section
variable {P : Program} {w : World} {K : PySem.W.Frag} {base : Heap} {mg : Str → Option Value}
/-- one call of a def, from the around it has -/
theorem fn_at {x qual : Str} {st : Stmt} {f : Addr} {fd : FuncData} {N ps : List Str} {k : Nat} {A : Around} {outer : List Env} {s : Shared} {H : Hp} {args : Args} {us : List Value} {vs : List V} {Q : VK} {E : XK} (F : Fun K x qual st f fd) (S : FnScope N ps (defScope st)) (hr : Room (k + 1) A) (e0 : Env0 P w K mg base A outer s H)
    (hb : BindsTo s fd args (ps.zip us)) (r : Vals vs us) (hl : vs.length = ps.length) (body : ∀ cdv : Value, Room k (A.deeper (envOfC qual (defScope st) s.heap.objs.size f cdv)) →
      ∃ t, PSs (cxOf (L2.CX P w) P w K mg base N qual (defScope st) f cdv A outer s H E) (defBody st) t ∧ t { nx := fun _ H' => Q .non H', rt := Q } (L2.start N vs) H) : codeAny (model P w) A (.call (.ref f) args) (CR (L2.CX P w) outer P w H s Q E) s := by
  obtain ⟨oc, od, kV, doc, pm, an, cdv, ct, osl, rfl, lk, hcd⟩ := F.ex; have old : ∀ b o, base.get? b = some o → s.heap.get? b = some o := fun b o e => (e0.bs b o e).1
  refine Att.call_fn (e0.mod.kin.keeps old) (e0.mod.nolimit.keeps old) lk hcd hr.depth hb ?_ ?_ S.co S.gen S.kind
  · refine List.all_eq_true.mpr fun ⟨n, v⟩ hy => ?_; rcases S.par n (List.of_mem_zip hy).1 with q | q
    · simp only [q]; decide
    · simp only [q]; decide
  · intro s1 ic
    obtain ⟨t, ht, hq⟩ := body cdv (hr.deeper _)
    refine wpAny_mono (ht.run [] s1 _ H _ (inv_start S hr.hd e0 hl r ic) hq) (fun fl s' z => ?_) fun e s' z => z
    cases fl with
    | ret u =>
      obtain ⟨v, σ', H', J, rv, q⟩ := z
      exact ⟨v, H', J.os, J.bare, J.base, J.hok, rv, q⟩
    | next =>
      obtain ⟨σ', H', J, q⟩ := z
      exact ⟨V.non, H', J.os, J.bare, J.base, J.hok, rfl, q⟩
    | brk => exact z.choose_spec.choose_spec.2.elim
    | cont => exact z.choose_spec.choose_spec.2.elim
variable {s : Shared} {fa a : Addr} {vs : List Value} {ns : List Int}
/-- what is wanted of the call -/
def Good (s : Shared) : Result → Shared → Prop := fun r s' => r = .ok (.ret (.bool true)) ∧ OldK s.heap s'.heap ∧ s'.os = s.os ∧ AllBare s'.gens
/-- the end of a call that began at H -/
theorem good_of {H : Hp} {r : Result} {s' : Shared} (hO : Only H) (h0 : HOk P w H s.heap) (z : CR (L2.CX P w) [] P w H s (fun v _ => v = .bl true) (fun _ _ _ => False) r s') : Good s r s' := by
  cases r with
  | error e =>
    obtain ⟨_, _, _, _, _, _, _, _, _, _, _, _, z⟩ := z
    exact z.elim
  | ok fl =>
    cases fl with
    | next => exact z.elim
    | brk => exact z.elim
    | cont => exact z.elim
    | ret u =>
      obtain ⟨v, H', os, bare, un, hok, rv, q⟩ := z
      have q' : v = .bl true := q
      subst q'
      have ru : u = Value.bool true := rv
      subst ru
      refine ⟨rfl, OldK.of_keep fun b o e => ?_, os, bare⟩; cases hb : H b with
      | none => exact un.keep b o e hb (fun z => nomatch z) (fun z => nomatch z)
      | some x =>
        rcases hO b with n | ⟨ob, xs, n⟩
        · rw [n] at hb; cases hb
        · have g0 : s.heap.get? b = some ob := (h0 b _ n).1
          have g1 : s'.heap.get? b = some ob := (hok b _ (un.frzs b ob _ n)).1
          rw [g1, ← g0, e]
/-- H tracks nothing but the script, if that -/
theorem env_of {H : Hp} (KX : K.In s.heap) (hns : s.heap.Ns mainGlobals mg) {mb : Str → Option Value} (hb : s.heap.Ns builtinsNs mb) (hbb : ∀ x : Str, x ≠ "__name__" → mb x = bootBuiltins x) (hlim : s.heap.NoLimit) (hg : s.gens = #[]) (ha : s.heap.get? a = some { cls := .type "list", data := .seq vs.toArray })
    (hok : HOk P w H s.heap) (hA : ∀ b, H b ≠ none → b = a) (hK : H a ≠ none → K.lookup a = none) : ∃ base : Heap, K.In base ∧ base.Ns mainGlobals mg ∧ Env0 P w K mg base callerA [] s H := by
  have at_a : ∀ {b : Addr} {u : HO}, H b = some u → b = a := fun {b u} e => hA b (by rw [e]; exact fun z => nomatch z)
  have dicts : ∀ {b : Addr} {o : Obj} {es : Array DictEntry} {ep : Nat}, s.heap.get? b = some o → o.data = .dict es ep → H b = none := fun {b o es ep} e d => by
    cases q : H b with
    | none => rfl
    | some u =>
      obtain rfl := at_a q
      rw [ha] at e
      cases e
      cases d
  have nsB : ∀ {b : Addr} {m : Str → Option Value}, s.heap.Ns b m → (hidT s.heap H).Ns b m := fun {b m} z => by
    obtain ⟨o, es, ep, e, d, r⟩ := z
    exact ⟨o, es, ep, hidT_get e (dicts e d), d, r⟩
  have kB : K.In (hidT s.heap H) := fun b o e => hidT_get (KX b o e) (by
    cases q : H b with
    | none => rfl
    | some u =>
      obtain rfl := at_a q
      rw [hK (by rw [q]; exact fun z => nomatch z)] at e
      cases e)
  obtain ⟨mc, l1, l2⟩ := hlim
  exact ⟨_, kB, nsB hns, rfl, ⟨kB, nsB hns, ⟨mb, nsB hb, hbb⟩, ⟨mc, nsB l1, l2⟩⟩, fun b o e => of_hidT e, Nat.le_of_eq (hidT_size _ _), trivial, (fun b z => nomatch z), hok, .of_eq hg⟩
theorem law_at (KX : K.In s.heap) (hns : s.heap.Ns mainGlobals mg) {mb : Str → Option Value} (hb : s.heap.Ns builtinsNs mb) (hbb : ∀ x : Str, x ≠ "__name__" → mb x = bootBuiltins x) (hlim : s.heap.NoLimit) (hg : s.gens = #[]) (ha : s.heap.get? a = some { cls := .type "list", data := .seq vs.toArray }) (hi : IntsAre vs ns) (hl : ns.length ≤ sizeLine)
    (run : ∀ (base : Heap) (H : Hp), K.In base → base.Ns mainGlobals mg → Env0 P w K mg base callerA [] s H → Only H → SqL K H a (ns.map V.int) → codeAny (model P w) callerA (.call (.ref fa) ⟨[.ref a], []⟩) (CR (L2.CX P w) [] P w H s (fun v _ => v = .bl true) (fun _ _ _ => False)) s) :
    codeAny (model P w) callerA (.call (.ref fa) ⟨[.ref a], []⟩) (Good s) s := by
  have rv := vals_ints hi
  have lv := hi.length
  have go : ∀ H : Hp, HOk P w H s.heap → (∀ b, H b ≠ none → b = a) → (H a ≠ none → K.lookup a = none) → Only H → SqL K H a (ns.map V.int) → codeAny (model P w) callerA (.call (.ref fa) ⟨[.ref a], []⟩) (Good s) s := fun H hok hA hK hO hS => by
    obtain ⟨base, k1, k2, e0⟩ := env_of KX hns hb hbb hlim hg ha hok hA hK
    exact codeAny_mono (run base H k1 k2 e0 hO hS) fun r s' z => good_of hO hok z
  cases hk : K.lookup a with
  | some o =>
    have e := KX a o hk
    rw [ha] at e
    cases e
    exact go (fun _ => none) (fun b u z => nomatch z) (fun b z => absurd rfl z) (fun z => absurd rfl z) (fun _ => .inl rfl) (.inr ⟨_, vs.toArray, _, hk, rfl, rfl, rfl, by rw [List.size_toArray, lv]; exact hl, by simpa using rv⟩)
  | none =>
    have same : upd (fun _ => none) a (HO.frz { cls := .type "list", data := .seq vs.toArray } (.lst (ns.map V.int))) a = some (HO.frz { cls := .type "list", data := .seq vs.toArray } (.lst (ns.map V.int))) := upd_same
    have other : ∀ b, b ≠ a → upd (fun _ => none) a (HO.frz { cls := .type "list", data := .seq vs.toArray } (.lst (ns.map V.int))) b = none := fun b hb => upd_ne hb
    refine go (upd (fun _ => none) a (.frz { cls := .type "list", data := .seq vs.toArray } (.lst (ns.map V.int)))) (fun b u z => ?_) (fun b z => ?_) (fun _ => hk) (fun b => ?_) (.inl (.inr ⟨_, same⟩))
    · by_cases h : b = a
      · subst h
        rw [same] at z
        cases z; exact ⟨ha, by rw [List.length_map]; exact hl, vs, _, rv, ha⟩
      · rw [other b h] at z
        cases z
    · by_cases h : b = a
      · exact h
      · exact absurd (other b h) z
    · by_cases h : b = a
      · subst h
        exact .inr ⟨_, _, same⟩
      · exact .inl (other b h)
end
/-- the body of the law's def, from where nothing is being shown -/
def LawBody (P : Program) (w : World) (K : PySem.W.Frag) (mg : Str → Option Value) (base : Heap) (g : Gc) (qual : Str) (st : Stmt) (N : List Str) (f : Addr) (k : Nat) (m : Ms) : Prop :=
  ∀ (cdv : Value) (A : Around) (outer : List Env) (s : Shared) (H : Hp) (E : XK), A.guards = some [] → Room k (A.deeper (envOfC qual (defScope st) s.heap.objs.size f cdv)) →
    (cxOf (L2.CX P w) P w K mg base N qual (defScope st) f cdv A outer s H E).A.units + 65 < cLine →
    PassesOwn (model P w) (cxOf (L2.CX P w) P w K mg base N qual (defScope st) f cdv A outer s H E).A (cxOf (L2.CX P w) P w K mg base N qual (defScope st) f cdv A outer s H E).env (cxOf (L2.CX P w) P w K mg base N qual (defScope st) f cdv A outer s H E).xe →
    Takes (cxOf (L2.CX P w) P w K mg base N qual (defScope st) f cdv A outer s H E) (fun cls d _ H => E cls d H) →
    PSs (cxOf (L2.CX P w) P w K mg base N qual (defScope st) f cdv A outer s H E) (defBody st) (TSm g (fun cls d _ H => E cls d H) m)
theorem walk_lawG {l : PySem.W.OpenLaw} {q : Program} {loose : List Str} {XP : (Str → Option Value) → Heap → Prop} {YP : World → Heap → Prop} {d : DefRec} {K : Params → PySem.W.Frag} {k : Nat} {N : List Str} {m : List Int → Ms} (hn : l.most = some 63) (hdf : d.params.defaults = []) (hr : Room (k + 1) callerA)
    (hY : ∀ (w : World) (h : Heap), YP w h → (K w.params).In h) (yes : ∀ ns : List Int, ns.length ≤ 63 → Yes (runB N.length (m ns) [.scr] [])) (F : ∀ (w : World) (mg : Str → Option Value) (fa : Addr) (h : Heap), (K w.params).In h → h.Ns mainGlobals mg → mg d.name = some (.ref fa) →
      ∃ (fd : FuncData) (x qual : Str) (st : Stmt) (cl : Nat → Addr), Fun (K w.params) x qual st fa fd ∧ FnScope N ["script"] (defScope st) ∧ (∀ (s : Shared) (u : Value), BindsTo s fd ⟨[u], []⟩ [("script", u)]) ∧
        ∀ base : Heap, (K w.params).In base → base.Ns mainGlobals mg → ∀ g : Gc, g.K = K w.params → g.cl = cl → g.exn = none → LawBody l.prog w (K w.params) mg base g qual st N fa k (m g.ns)) : PySem.W.WalkO q loose XP YP l.row.toRowW d [] (fun f vs => PySem.call f vs) := by
  refine Att.attach_call hn hdf fun w s0 s1 mg mb fa o pm cd doc a vs ns G Y ho hd hcd hmg hobj hints hlen hg => ?_
  have KX := hY w _ Y
  obtain ⟨fd, x, qual, st, cl, Fn, S, bt, body⟩ := F w mg fa _ KX G.T.g hmg
  refine law_at KX G.T.g G.T.b G.T.builtins G.T.nolimit hg hobj hints (Nat.le_trans hlen (big_line (by decide))) fun base H k1 k2 e0 hO hS => ?_
  refine fn_at (us := [.ref a]) (vs := [.ref a]) Fn S hr e0 (bt s1 (.ref a)) (.cons rfl .nil) rfl fun cdv hr' => ?_
  refine ⟨_, body base k1 k2 ⟨cl, K w.params, a, ns, none⟩ rfl rfl rfl cdv callerA [] s1 H _ rfl hr' (by have := hr'.un; show (callerA.deeper (envOfC qual (defScope st) s1.heap.objs.size fa cdv)).units + 65 < cLine; omega) (passes_of rfl) (takes_of rfl rfl rfl rfl), ?_⟩
  refine run_read (g := ⟨cl, K w.params, a, ns, none⟩) (n := 1) (N := N) (m := m ns) (vs := [.ref a]) (Q := fun v _ => v = .bl true) (E := fun _ _ _ => False) ⟨rfl, Wd.nil, [.scr], [], .cons rfl .nil, Cs.start hO hS, ?_⟩
  have y := yes ns hlen
  cases e : runB N.length (m ns) [.scr] [] with
  | ok u h =>
    rw [e] at y
    cases u with
    | bl b =>
      cases b with
      | true => exact fun ρ' v H' _ _ r => r
      | false => exact y.elim
    | _ => exact y.elim
  | ex c f h => rw [e] at y; exact y.elim
  | stuck => rw [e] at y; exact y.elim
end Vm

set_option Elab.async false
set_option linter.all false
set_option maxRecDepth 100000
set_option maxHeartbeats 4100000
namespace Vm
open L2 PyProof.Rows PySem PySem.Spec
section
variable {X : Cx} {g : Gc} {W : WX} {A : Me} {L : Ml} {o e : Expr} {es : List Expr} {apos cpos pos : Pos}
/-! ### xs.count(y) -/
def rCntD (K : PySem.W.Frag) : V → List V → Hp → VK → Prop := fun x xs H Q => ∃ (a : Addr) (y : V) (d : PyData) (ds : List PyData), x = .ref a ∧ xs = [y] ∧ Dp K H (.ref a) (.list ds) ∧ Dp K H y d ∧ PyData.plainAll ds = true ∧ d.plain = true ∧ d.depth ≤ 60 ∧ Q (.int (ds.countP fun z => PyData.eqv z d : Nat)) H
theorem mt_countD (hu : X.A.units + 65 < cLine) : MtR X "list.count" (rCntD X.K) := by
  intro pins s σ H x xs v us Q I rx rxs ⟨a, y, d, ds, ex, exs, hl, hy, p1, p2, dp, q⟩
  subst ex exs
  obtain rfl : v = Value.ref a := rx; obtain ⟨u, rfl, ru⟩ := rxs.one
  obtain ⟨as, r1⟩ := Dp.reads I (.list ds) (.ref a) (.ref a) hl rfl
  obtain ⟨bs, r2⟩ := Dp.reads I d y u hy ru
  cases r1 with
  | list e1 e2 e3 e4 => exact SeqAt.count_list_data ⟨_, e1, e2, _, e3⟩ e4 r2 p1 p2 (by have := Nat.min_le_right (PyData.depthAll ds) d.depth; omega) ⟨.int _, H, I.tok _, ⟨_, rfl⟩, q⟩
def fCount : Fm := fun x us h => match us with
  | [u] => match rd h deep x, rd h deep u with
    | some (.list ds), some d => if PyData.plainAll ds && d.plain && decide (d.depth ≤ 60) then .ok (.int (ds.countP fun z => PyData.eqv z d : Nat)) h else .stuck
    | _, _ => .stuck
  | _ => .stuck
theorem s_count {K : PySem.W.Frag} (hK : K = g.K := by assumption) : SMt g K "list" fCount (rCntD K) := fun E ρ x xs vx vs h H Q rx rs cs p => by
  subst hK
  unfold fCount at p
  split at p
  · rename_i u
    obtain ⟨v, rfl, r1⟩ := one_of rs
    split at p
    · rename_i ds d e1 e2
      split at p
      · rename_i c
        simp only [Bool.and_eq_true, decide_eq_true_eq] at c
        have dl := rd_dp cs _ _ _ _ rx e1
        have dl2 := dl
        cases dl2 with
        | lst hs ha => exact ⟨_, v, d, ds, rfl, rfl, dl, rd_dp cs _ _ _ _ r1 e2, c.1.1, c.1.2, c.2, Post.here (rel := Rl g) p cs rfl⟩
      · exact p.elim
    · exact p.elim
  · exact p.elim
theorem e_count (hK : X.K = g.K := by assumption) (hu : X.A.units + 65 < cLine) (ho : PE X o (T g W A)) (ha : PA X (e :: es) (TL g W L)) (b0 : attributeBase o "count" X.env (eval o X.env) = eval o X.env := by rfl)
    (b1 : ((backTo cpos (starEach (e :: es) X.env)).all (fun x => !x.1) && (backToKw cpos (keywordEach [] X.env)).all (fun x => x.1.isSome) && decide ((e :: es).length + ([] : List Keyword).length + (if ([] : List Keyword).isEmpty then 0 else 1) < 30)) = true := by rfl)
    (b2 : (apos.endLine == cpos.line) = true := by rfl) (b3 : starEach (e :: es) X.env = (false, eval e X.env) :: starEach es X.env := by rfl) (b4 : (backTo cpos (starEach es X.env)).any (·.1) = false := by rfl) :
    PE X (.Call (.Attribute o "count" apos) (e :: es) [] cpos) (T g W (mMtL fCount A L)) := e_mtL PySem.F.slot_list_count PySem.F.type_list_count (mt_countD hu) s_count ho ha b0 b1 b2 b3 b4
/-! ### f() -/
def mCall0 (d : List U → Mh → R U) : Me := fun _ h => match d [] h with
  | .ok u h1 => .ok u h1
  | _ => .stuck
theorem e_call0 {k : Nat} {f : Addr} {fd : FuncData} {d : List U → Mh → R U} {x : Str} {p : Pos} (F : FnOk X.prog X.w X.K X.mg X.base (L2.CX X.prog X.w) k f fd [] (spM g 0 d)) (hr : Room k X.A) (hg : Gl X x) (hm : X.mg x = some (.ref f)) (hk : PySem.W.keepIn X.K (.ref f) = true) (hb : Binds X.K fd [] []) (hdb : (x == ("__debug__" : Str)) = false := by decide) :
    PE X (.Call (.Name x p) [] [] pos) (T g W (mCall0 d)) := by
  refine PE.im (pe_call0 (E := E0) (dvs := []) F hr hg hm hk hb .nil passL hdb) fun σ H Q ⟨ρ, s, h, hs, cs, z⟩ => ⟨rfl, ρ, [], h, .nil, cs, ?_⟩
  unfold mCall0 at z
  cases ed : d [] h with
  | ok u h1 => rw [ed] at z; exact z
  | ex c f h1 => rw [ed] at z; exact z.elim
  | stuck => rw [ed] at z; exact z.elim
end
end Vm

set_option Elab.async false
set_option linter.all false
set_option maxRecDepth 100000
set_option maxHeartbeats 4100000
namespace Vm
open L2 PyProof.Rows PySem PySem.Spec
/-! ### a module's own exception classes, all at once -/
/-- the def within a class's body -/
def clsS (st : Stmt) : Stmt := match st with
  | .ClassDef _ _ _ body .. => body.getD 0 (.Pass ⟨0, 0, 0, 0⟩)
  | _ => .Pass ⟨0, 0, 0, 0⟩
/-- a class whose __init__ keeps one argument -/
def Xcf (P : Program) (w : World) (K : PySem.W.Frag) (mg : Str → Option Value) (base : Heap) (x f : Str) (C : Addr) : Prop :=
  ∃ fI fd, Xc1 K mg x f C fI ∧ FnOk P w K mg base (L2.CX P w) 1 fI fd ["self", f] (spI K f) ∧ Binds K fd ["self", f] [] ∧ ∀ (s : Shared) (p u : Value), K.In s.heap → BindsTo s fd ⟨[p], [(f, u)]⟩ ((["self", f] : List Str).zip [p, u])
section
variable {X : Cx} {g : Gc} {W : WX} {A : Me} {M : Ms} {e : Expr} {pos : Pos}
theorem e_xP {c : Nat} {x f : Str} {p : Pos} (T : Xcf X.prog X.w X.K X.mg X.base x f (g.cl c)) (hr : Room 2 X.A) (hg : Gl X x) (ha : PE X e (Vm.T g W A)) (hst : starEach [e] X.env = (false, eval e X.env) :: starEach [] X.env := by rfl) (hpl : (backTo pos (starEach ([] : List Expr) X.env)).any (·.1) = false := by rfl) (hdb : (x == ("__debug__" : Str)) = false := by decide) :
    PE X (.Call (.Name x p) [e] [] pos) (Vm.T g W (mExn c f A)) := by
  obtain ⟨fI, fd, T1, F, b, _⟩ := T
  exact e_exnP T1 F hr passL b hg ha hst hpl hdb
theorem e_xK {c : Nat} {x f : Str} {p kp : Pos} (T : Xcf X.prog X.w X.K X.mg X.base x f (g.cl c)) (hr : Room 2 X.A) (hg : Gl X x) (ha : PE X e (Vm.T g W A)) (hdb : (x == ("__debug__" : Str)) = false := by decide)
    (hall : (backToKw pos (keywordEach [⟨some f, e, kp⟩] X.env)).all (·.1.isSome) = true := by rfl) (hks : (backToKw pos (keywordEach [⟨some f, e, kp⟩] X.env)).filterMap (·.1) = [f] := by rfl)
    (hpl : ((backTo pos (starEach [] X.env)).any (·.1) || (backToKw pos (keywordEach [⟨some f, e, kp⟩] X.env)).any (·.1.isNone)) = false := by rfl) :
    PE X (.Call (.Name x p) [] [⟨some f, e, kp⟩] pos) (Vm.T g W (mExn c f A)) := by
  obtain ⟨fI, fd, T1, F, _, b⟩ := T
  exact e_exnK T1 F hr passL b hg ha hdb hall hks hpl
theorem s_xR {c : Nat} {x f : Str} {p p2 : Pos} (hc : X.calm = true) (tk : Takes X W) (T : Xcf X.prog X.w X.K X.mg X.base x f (g.cl c)) (hr : Room 2 X.A) (hg : Gl X x) (ha : PE X e (Vm.T g W A)) (hst : starEach [e] X.env = (false, eval e X.env) :: starEach [] X.env := by rfl) (hpl : (backTo pos (starEach ([] : List Expr) X.env)).any (·.1) = false := by rfl) (hdb : (x == ("__debug__" : Str)) = false := by decide) :
    PS X (.Raise (some (.Call (.Name x p) [e] [] pos)) none p2) (TSm g W (sRaise1 c f A)) := by
  obtain ⟨fI, fd, T1, F, b, _⟩ := T
  exact s_raise1 hc tk passL T1 F hr b hg ha hst hpl hdb
end
theorem oex_mk {K : PySem.W.Frag} {C N : Addr} {nm q : Str} {bs bm : List Value} {sn : List Str} {sub : List Value} {ab : Bool} {col : Option Bool} {dd : Option Addr} {k0 k1 k2 k3 k5 : Option Value} (lk : K.lookup C = some (excClassObj nm q C N bs bm true sn sub ab col dd k0 k1 k2 k3 k5 "ValueError.__new__")) (r : PySem.HandSPX.refsVE bm = true)
    (sa : PySem.W.findIn K (.ref C) "__setattr__" = some (some (.builtin "object.__setattr__"))) (ex : PySem.W.subIn K (.ref C) (.type "BaseException") = some true) (ty : PySem.W.typeIn K (.ref C) = some (.type "type")) (k : PySem.W.keepIn K (.ref C) = true) : OexC K C :=
  ⟨⟨nm, q, N, bs, bm, sn, sub, ab, col, dd, k0, k1, k2, k3, k5, lk, r⟩, sa, ex, ty, k⟩
/-- what is asked of the classes at all, by looking -/
def exB (K : PySem.W.Frag) (C : Addr) : Bool :=
  decide (PySem.W.findIn K (.ref C) "__getattribute__" = some (some (.builtin "BaseException.__getattribute__"))) && decide (PySem.W.findIn K (.ref C) "__getattr__" = some none) && decide (PySem.W.subIn K (.ref C) (.type "BaseException") = some true) && PySem.W.hasDictIn K C &&
  decide (PySem.W.findIn K (.ref C) "__class__" = some (some (.builtin "object.__class__"))) && decide (PySem.W.specialIn K (.builtin "object.__class__") "__get__" = some (some (.builtin "getset_descriptor.__get__"))) && decide (PySem.W.takesIn K (.builtin "object.__class__") = some true) && decide (PySem.W.mroIn K C (.type "object") = some true)
theorem exB_ok {K : PySem.W.Frag} {C : Addr} (h : exB K C = true) : ExcC K C ∧ XfC K C := by
  unfold exB at h
  simp only [Bool.and_eq_true, decide_eq_true_eq] at h; obtain ⟨⟨⟨⟨⟨⟨⟨h1, h2⟩, h3⟩, h4⟩, h5⟩, h6⟩, h7⟩, h8⟩ := h
  exact ⟨⟨h1, h2, h3, h4, h5, h6, h7, h8⟩, ⟨h1, h2, h3, h4⟩⟩
def allC (n : Nat) (p : Nat → Bool) : Bool := (List.range n).all p
theorem allC_ok {n : Nat} {p : Nat → Bool} (h : allC n p = true) : ∀ c, c < n → p c = true := fun c hc => List.all_eq_true.mp h c (List.mem_range.mpr hc)
def tk0 (n : Nat) (b : Nat → Bool) : Nat → Option Bool := fun c => if c < n then some (b c) else none
theorem tk0_ok {n : Nat} {b : Nat → Bool} {c : Nat} {k : Bool} (h : tk0 n b c = some k) : c < n ∧ b c = k := by
  unfold tk0 at h
  split at h
  · rename_i hc
    exact ⟨hc, Option.some.inj h⟩
  · cases h
/-- what the program has of them: n classes, the first one over all -/
structure Ecs (K : PySem.W.Frag) (cl : Nat → Addr) (n : Nat) (fs : List Str) : Prop where
  ex : ∀ c, c < n → ExcC K (cl c) ∧ XfC K (cl c)
  no : ∀ f ∈ fs, ∀ c, c < n → PySem.W.findIn K (.ref (cl c)) f = some none
  is : ∀ d, d < n → ∀ c, c < n → PySem.W.kitOne K (.ref (cl c)) (.ref (cl d)) = some (c == d || d == 0)
  ve : ∀ c, c < n → PySem.W.kitOne K (.ref (cl c)) (.type "ValueError") = some true
  ki : ∀ c, c < n → PySem.W.kitAny K (.ref (cl c)) [.type "KeyError", .type "IndexError", .type "LookupError"] = some false
  xm : ∀ c, c < n → PySem.W.exmOne K (.ref (cl c)) (.ref (cl 0)) = some true
def ecsB (K : PySem.W.Frag) (cl : Nat → Addr) (n : Nat) (fs : List Str) : Bool :=
  allC n (fun c => exB K (cl c)) && fs.all (fun f => allC n fun c => decide (PySem.W.findIn K (.ref (cl c)) f = some none)) && allC n (fun d => allC n fun c => decide (PySem.W.kitOne K (.ref (cl c)) (.ref (cl d)) = some (c == d || d == 0))) &&
  allC n (fun c => decide (PySem.W.kitOne K (.ref (cl c)) (.type "ValueError") = some true)) && allC n (fun c => decide (PySem.W.kitAny K (.ref (cl c)) [.type "KeyError", .type "IndexError", .type "LookupError"] = some false)) && allC n (fun c => decide (PySem.W.exmOne K (.ref (cl c)) (.ref (cl 0)) = some true))
theorem ecsB_ok {K : PySem.W.Frag} {cl : Nat → Addr} {n : Nat} {fs : List Str} (h : ecsB K cl n fs = true) : Ecs K cl n fs := by
  unfold ecsB at h
  simp only [Bool.and_eq_true] at h; obtain ⟨⟨⟨⟨⟨h1, h2⟩, h3⟩, h4⟩, h5⟩, h6⟩ := h
  exact ⟨fun c hc => exB_ok (allC_ok h1 c hc), fun f hf c hc => of_decide_eq_true (allC_ok (List.all_eq_true.mp h2 f hf) c hc), fun d hd c hc => of_decide_eq_true (allC_ok (allC_ok h3 d hd) c hc), fun c hc => of_decide_eq_true (allC_ok h4 c hc), fun c hc => of_decide_eq_true (allC_ok h5 c hc), fun c hc => of_decide_eq_true (allC_ok h6 c hc)⟩
section
variable {X : Cx} {g : Gc} {W : WX} {A : Me} {e : Expr} {pos : Pos} {n : Nat} {fs : List Str}
theorem e_xfd {f : Str} (T : Ecs X.K g.cl n fs) (hf : f ∈ fs) (he : PE X e (Vm.T g W A)) (hb : attributeBase e f X.env (eval e X.env) = eval e X.env := by rfl) : PE X (.Attribute e f pos) (Vm.T g W (mExnF (fun c => decide (c < n)) f A)) :=
  e_exnF (fun c hc => ⟨(T.ex c (of_decide_eq_true hc)).2, T.no f hf c (of_decide_eq_true hc)⟩) he hb
theorem e_isC {d : Nat} {p pc : Pos} {x : Str} (T : Ecs X.K g.cl n fs) (hd : d < n) (hg : Gl X "isinstance") (hm : X.mg "isinstance" = none) (hgx : Gl X x) (hmx : X.mg x = some (.ref (g.cl d))) (he : PE X e (Vm.T g W A)) (hdb : (x == ("__debug__" : Str)) = false := by decide)
    (hst : starEach [e, .Name x pc] X.env = (false, eval e X.env) :: starEach [.Name x pc] X.env := by rfl) (hst2 : starEach [Expr.Name x pc] X.env = (false, eval (.Name x pc) X.env) :: starEach [] X.env := by rfl)
    (hpl : (backTo pos (starEach [Expr.Name x pc] X.env)).any (·.1) = false := by rfl) :
    PE X (.Call (.Name "isinstance" p) [e, .Name x pc] [] pos) (Vm.T g W (mIsE (tk0 n fun c => c == d || d == 0) A)) :=
  e_isE (cv := .ref (g.cl d)) (vc := .ref (g.cl d)) hg hm (pe_glob hgx hmx rfl hdb) (fun u r => r) (fun c b h => by
    obtain ⟨hc, rfl⟩ := tk0_ok h
    exact ⟨(T.ex c hc).1, T.is d hd c hc⟩) he hst hst2 hpl
theorem e_isVE {p pc : Pos} (T : Ecs X.K g.cl n fs) (hg : Gl X "isinstance") (hm : X.mg "isinstance" = none) (hgx : Gl X "ValueError") (hmx : X.mg "ValueError" = none) (he : PE X e (Vm.T g W A))
    (hst : starEach [e, .Name "ValueError" pc] X.env = (false, eval e X.env) :: starEach [.Name "ValueError" pc] X.env := by rfl) (hst2 : starEach [Expr.Name "ValueError" pc] X.env = (false, eval (.Name "ValueError" pc) X.env) :: starEach [] X.env := by rfl)
    (hpl : (backTo pos (starEach [Expr.Name "ValueError" pc] X.env)).any (·.1) = false := by rfl) :
    PE X (.Call (.Name "isinstance" p) [e, .Name "ValueError" pc] [] pos) (Vm.T g W (mIsE (tk0 n fun _ => true) A)) :=
  e_isE (cv := .type "ValueError") (vc := .ty "ValueError") hg hm (pe_bltn hgx hmx (by decide +kernel) rfl) (fun u r => r) (fun c b h => by
    obtain ⟨hc, rfl⟩ := tk0_ok h
    exact ⟨(T.ex c hc).1, T.ve c hc⟩) he hst hst2 hpl
theorem e_isKI {p q1 q2 q3 tpos : Pos} {x1} (T : Ecs X.K g.cl n fs) (hg : Gl X "isinstance") (hm : X.mg "isinstance" = none) (g1 : Gl X "KeyError") (m1 : X.mg "KeyError" = none) (g2 : Gl X "IndexError") (m2 : X.mg "IndexError" = none) (g3 : Gl X "LookupError") (m3 : X.mg "LookupError" = none) (he : PE X e (Vm.T g W A))
    (hst : starEach [e, .Tuple [.Name "KeyError" q1, .Name "IndexError" q2, .Name "LookupError" q3] x1 tpos] X.env = (false, eval e X.env) :: starEach [.Tuple [.Name "KeyError" q1, .Name "IndexError" q2, .Name "LookupError" q3] x1 tpos] X.env := by rfl)
    (hst2 : starEach [Expr.Tuple [.Name "KeyError" q1, .Name "IndexError" q2, .Name "LookupError" q3] x1 tpos] X.env = (false, eval (.Tuple [.Name "KeyError" q1, .Name "IndexError" q2, .Name "LookupError" q3] x1 tpos) X.env) :: starEach [] X.env := by rfl)
    (hpl : (backTo pos (starEach [Expr.Tuple [.Name "KeyError" q1, .Name "IndexError" q2, .Name "LookupError" q3] x1 tpos] X.env)).any (·.1) = false := by rfl) :
    PE X (.Call (.Name "isinstance" p) [e, .Tuple [.Name "KeyError" q1, .Name "IndexError" q2, .Name "LookupError" q3] x1 tpos] [] pos) (Vm.T g W (mIsE (tk0 n fun _ => false) A)) :=
  e_isET (vs := [.ty "KeyError", .ty "IndexError", .ty "LookupError"]) (ws := [.type "KeyError", .type "IndexError", .type "LookupError"]) hg hm
    (pa_cons (pe_bltn (v := .ty "KeyError") g1 m1 (by decide +kernel) rfl) (pa_cons (pe_bltn (v := .ty "IndexError") g2 m2 (by decide +kernel) rfl) (pa_cons (pe_bltn (v := .ty "LookupError") g3 m3 (by decide +kernel) rfl) pa_nil (by rfl)) (by rfl)) (by rfl))
    (.cons (.ty _) (.cons (.ty _) (.cons (.ty _) .nil))) (by decide) (fun c b h => by
    obtain ⟨hc, rfl⟩ := tk0_ok h
    exact ⟨(T.ex c hc).1, T.ki c hc⟩) he hst hst2 hpl
end
end Vm

set_option Elab.async false
set_option linter.all false
set_option maxRecDepth 100000
set_option maxHeartbeats 4100000
namespace Vm
open L2 PyProof.Rows PySem PySem.Spec
theorem lt64 {a c : Nat} (h : a + 65 < c) : a + 64 < c := by omega
theorem xcf_mk {P : Program} {w : World} {K : PySem.W.Frag} {mg : Str → Option Value} {base : Heap} {x f qual : Str} {st : Stmt} {C fI : Addr} {fd : FuncData} {p1 p2 p3 p4 : Pos} (gC : mg x = some (.ref C)) (ox : OexC K C) (iC : PySem.W.findIn K (.ref C) "__init__" = some (some (.ref fI))) (tI : PySem.W.typeIn K (.ref fI) = some (.type "function"))
    (nf : PySem.W.findIn K (.ref C) f = some none) (F : Fun K "__init__" qual st fI fd) (S : FnScope ["self", f] ["self", f] (defScope st)) (hb : defBody st = [.Assign [.Attribute (.Name "self" p1) f p2] (.Name f p3) p4]) (b : Binds K fd ["self", f] []) (bk : ∀ (s : Shared) (p u : Value), BindsTo s fd ⟨[p], [(f, u)]⟩ ((["self", f] : List Str).zip [p, u]))
    (h0 : Vis (defScope st) "self") (h1 : Vis (defScope st) f) (hd : (f == ("__debug__" : Str)) = false) (hcd : (f == ("__classdict__" : Str)) = false) (hs : ∀ X : Cx, swapsWith (.Name f p3) (some (.Attribute (.Name "self" p1) f p2)) p4.line X.env = pure false) : Xcf P w K mg base x f C :=
  ⟨fI, fd, ⟨gC, ox, iC, tI, nf⟩, init_ok (k := 0) F S hb h0 h1 hd hcd hs, b, fun s p u _ => bk s p u⟩
end Vm

set_option Elab.async false
set_option linter.all false
set_option maxRecDepth 100000
set_option maxHeartbeats 4100000
namespace Vm
open L2 PyProof.Rows PySem PySem.Spec

/-! ### frozen data: to and from -/
def pdOf : U → Option PyData
  | .non => some .none
  | .bl b => some (.bool b)
  | .int i => some (.int i)
  | .str x => some (.str x)
  | .dat d => some d
  | _ => none
def pdsOf : List U → Option (List PyData)
  | [] => some []
  | u :: us => match pdOf u with
    | some d => match pdsOf us with
      | some ds => some (d :: ds)
      | none => none
    | none => none
def ofPd : PyData → U
  | .none => .non
  | .bool b => .bl b
  | .int i => .int i
  | .str x => .str x
  | .list ds => .dat (.list ds)
  | .tuple ds => .dat (.tuple ds)
  | .dict k => .dat (.dict k)
section
variable {g : Gc} {ρ ρ' : Wd} {h : Mh} {H : Hp}
theorem pd_ok {u : U} {v : V} {d : PyData} (r : Rl g ρ u v) (e : pdOf u = some d) : Dq g.K ρ.fz v d := by
  cases u with
  | non => cases e; cases r; exact .non
  | bl b => cases e; cases r; exact .bl b
  | int b => cases e; cases r; exact .int b
  | str b => cases e; cases r; exact .str b
  | dat d' => cases e; exact r.2
  | loc n => cases e
  | scr => cases e
  | exn => cases e
  | obj c fs => cases e
  | pr ds => cases e
theorem pds_ok : ∀ {us : List U} {vs : List V} {ds : List PyData}, Rls g ρ us vs → pdsOf us = some ds → DqAll g.K ρ.fz vs ds
  | _, _, _, .nil, e => by cases e; exact .nil
  | u :: us, _, ds, .cons r rs, e => by
    unfold pdsOf at e
    cases e1 : pdOf u with
    | none => rw [e1] at e; cases e
    | some d =>
      rw [e1] at e
      cases e2 : pdsOf us with
      | none => rw [e2] at e; cases e
      | some dt =>
        rw [e2] at e
        cases e
        exact .cons (pd_ok r e1) (pds_ok rs e2)
theorem of_ok {v : V} {d : PyData} (r : Dq g.K ρ.fz v d) : Rl g ρ (ofPd d) v := by
  cases d with
  | none => cases r; rfl
  | bool b => cases r; rfl
  | int i => cases r; rfl
  | str x => cases r; rfl
  | list ds => exact ⟨rfl, r⟩
  | tuple ds => exact ⟨rfl, r⟩
  | dict k => cases r
theorem ofs_ok : ∀ {vs : List V} {ds : List PyData}, DqAll g.K ρ.fz vs ds → Rls g ρ (ds.map ofPd) vs
  | _, [], .nil => .nil
  | _, d :: ds, .cons r rs => .cons (of_ok r) (ofs_ok rs)
theorem DqAll.len {K : PySem.W.Frag} : ∀ {vs : List V} {ds : List PyData}, DqAll K H vs ds → vs.length = ds.length
  | _, [], .nil => rfl
  | _, d :: ds, .cons r rs => by rw [List.length_cons, List.length_cons, DqAll.len rs]
/-- a list's or a tuple's items, wherever they stand -/
def seqOf (u : U) (h : Mh) : Option (Bool × List U) := match u with
  | .loc n => match h[n]? with
    | some (.lst xs) => some (true, xs)
    | some (.tup xs) => some (false, xs)
    | some (.tpl xs) => some (false, xs)
    | _ => none
  | .dat (.list ds) => some (true, ds.map ofPd)
  | .dat (.tuple ds) => some (false, ds.map ofPd)
  | _ => none
theorem seq_ok (cs : Cs g ρ h H) {u : U} {v : V} {k : Bool} {us : List U} (r : Rl g ρ u v) (e : seqOf u h = some (k, us)) :
    ∃ a vs, v = .ref a ∧ Rls g ρ us vs ∧ (k = true → H a = some (.lst vs)) ∧ (k = false → SqT g.K H a vs) := by
  unfold seqOf at e
  split at e
  · split at e
    · rename_i n xs en
      cases e
      obtain ⟨a, vs, rfl, ea, rv, ha⟩ := cs.lst en r
      exact ⟨a, vs, rfl, rv, fun _ => ha, fun z => (nomatch z)⟩
    · rename_i n xs en
      cases e
      obtain ⟨a, vs, o, rfl, ea, rv, _, ha⟩ := cs.tup en r
      exact ⟨a, vs, rfl, rv, fun z => (nomatch z), fun _ => .inl (.inr ⟨o, ha⟩)⟩
    · rename_i n xs en
      cases e
      obtain ⟨a, vs, rfl, ea, rv, ha⟩ := cs.tpl en r
      exact ⟨a, vs, rfl, rv, fun z => (nomatch z), fun _ => SqT.of ha⟩
    · cases e
  · cases e
    cases r.2 with
    | lst hs ha => exact ⟨_, _, rfl, ofs_ok ha, fun _ => cs.fzH _ _ hs, fun z => (nomatch z)⟩
  · cases e
    cases r.2 with
    | tup hs ha => exact ⟨_, _, rfl, ofs_ok ha, fun z => (nomatch z), fun _ => (DT.hle hs cs.fzH).sq⟩
  · cases e
/-- a frozen new tuple, a frozen new list -/
theorem madeT {E : XK} {Q : V → Hp → Prop} {us : List U} {vs : List V} {ds : List PyData} {p : Addr} {o : Obj} (e : pdsOf us = some ds) (r : Rls g ρ us vs) (q : Post g (Rl g) ρ (.ok (.dat (.tuple ds)) h) Q E) (c : Cs g ρ h H) (ho : o.dict = none) (hp : H p = none) : Q (.ref p) (upd H p (.frz o (.tup vs))) :=
  Post.madeF q c hp (fun _ _ z => by cases z) fun le same => ⟨rfl, .tup (.inl ⟨o, same, ho⟩) (DqAll.hle le.fz _ _ (pds_ok r e))⟩
theorem madeL {E : XK} {Q : V → Hp → Prop} {us : List U} {vs : List V} {ds : List PyData} {p : Addr} (e : pdsOf us = some ds) (r : Rls g ρ us vs) (q : Post g (Rl g) ρ (.ok (.dat (.list ds)) h) Q E) (c : Cs g ρ h H) (hp : H p = none) : Q (.ref p) (upd H p (.lst vs)) :=
  Post.madeF q c hp (fun _ _ z => by cases z) fun le same => ⟨rfl, .lst same (DqAll.hle le.fz _ _ (pds_ok r e))⟩
/-- a new tuple: frozen if it can be -/
def newT (us : List U) (h : Mh) : R U := match pdsOf us with
  | some ds => .ok (.dat (.tuple ds)) h
  | none => newO (.tup us) h
def newL (us : List U) (h : Mh) : R U := match pdsOf us with
  | some ds => .ok (.dat (.list ds)) h
  | none => .stuck
theorem newT_ok {E : XK} {Q : V → Hp → Prop} {us : List U} {vs : List V} {p : Addr} {o : Obj} (r : Rls g ρ us vs) (q : Post g (Rl g) ρ (newT us h) Q E) (c : Cs g ρ h H) (ho : o.dict = none) (hp : H p = none) : Q (.ref p) (upd H p (.frz o (.tup vs))) := by
  unfold newT at q
  cases e : pdsOf us with
  | some ds => rw [e] at q; exact madeT e r q c ho hp
  | none => rw [e] at q; exact Post.made q c hp ⟨vs, o, Rls.mono (pre_snoc _ _) r, ho, upd_same⟩
theorem newL_ok {E : XK} {Q : V → Hp → Prop} {us : List U} {vs : List V} {p : Addr} (r : Rls g ρ us vs) (q : Post g (Rl g) ρ (newL us h) Q E) (c : Cs g ρ h H) (hp : H p = none) : Q (.ref p) (upd H p (.lst vs)) := by
  unfold newL at q
  cases e : pdsOf us with
  | some ds => rw [e] at q; exact madeL e r q c hp
  | none => rw [e] at q; exact q.elim
end
/-! ### displays -/
def mTd (a : Ml) : Me := fun s h => (a s h).bind fun us h1 => if okLen us.length then newT us h1 else .stuck
def mLd (a : Ml) : Me := fun s h => (a s h).bind fun us h1 => if okLen us.length then newL us h1 else .stuck
section
variable {X : Cx} {g : Gc} {W : WX} {a b c e : Expr} {A B Cc : Me} {pos : Pos} {es : List Expr} {L : Ml}
theorem e_tupD {x1} (h : PA X es (TL g W L)) : PE X (.Tuple es x1 pos) (T g W (mTd L)) := by
  refine PE.im (pe_tupX h) fun σ H Q q => At.seq (rel := Rls g) q fun ρ1 xs s h1 vs H1 hs1 c1 r1 p1 => ?_
  cases eo : okLen xs.length with
  | true =>
    rw [eo, if_pos rfl] at p1
    exact ⟨by rw [← Paired.length r1]; exact okLen_line eo, fun p o ho hp => newT_ok r1 p1 c1 ho hp⟩
  | false => rw [eo, if_neg Bool.false_ne_true] at p1; exact p1.elim
theorem e_lstD (h : PA X es (TL g W L)) : PE X (.List es pos) (T g W (mLd L)) := by
  refine PE.im (pe_lst h) fun σ H Q q => At.seq (rel := Rls g) q fun ρ1 xs s h1 vs H1 hs1 c1 r1 p1 => ?_
  cases eo : okLen xs.length with
  | true =>
    rw [eo, if_pos rfl] at p1
    exact ⟨by rw [← Paired.length r1]; exact okLen_line eo, fun p hp => newL_ok r1 p1 c1 hp⟩
  | false => rw [eo, if_neg Bool.false_ne_true] at p1; exact p1.elim

end
end Vm

set_option Elab.async false
set_option linter.all false
set_option maxRecDepth 100000
set_option maxHeartbeats 4100000
namespace Vm
open L2 PyProof.Rows PySem PySem.Spec

/-! ### xs[::-1], t[::-1] -/
theorem adj_rev (n : Nat) : Builtin.Slice.sliceAdjust none none (-1) (n : Int) = ((n : Int) - 1, -1) := by
  unfold
         Builtin.Slice.sliceAdjust
  have h1 : ((-1 : Int) < 0) := by decide
  simp only [h1, if_true]
theorem places_rev (n : Nat) : Builtin.Slice.slicePlaces ((n : Int) - 1) (-1) (-1) = n := by
  unfold
         Builtin.Slice.slicePlaces
  have h1 : ¬ ((-1 :
                     Int) > 0) := by decide
  have e : ((n : Int) - 1 - -1 - 1) / - -1 = (n : Int) - 1 := by
    rw [show (- -1 : Int) =
                            1 by decide, Int.ediv_one]
    omega
  simp only [h1, if_false, e]
  split <;> omega
theorem fm_congr {α β : Type} {f g : α → Option β} : ∀ {l : List α}, (∀ x ∈ l, f x = g x) → l.filterMap f = l.filterMap g
  | [], _ => rfl
  | a :: l, h => by rw [List.filterMap_cons, List.filterMap_cons, h a List.mem_cons_self, fm_congr fun x hx => h x (List.mem_cons_of_mem _ hx)]
theorem pick_rev (xs : List Value) : ((List.range xs.length).filterMap fun (m : Nat) => xs.toArray[(((xs.length : Int) - 1) + (m : Int) * -1).toNat]?).toArray = xs.reverse.toArray := by
  have h := PySem.W.krv_all xs.reverse.toArray
  rw [List.size_toArray, List.length_reverse] at h
  refine congrArg List.toArray ?_
  rw [show xs.reverse = xs.reverse.toArray.toList from by simp, ← h]
  refine fm_congr fun m hm => ?_
  have hm := List.mem_range.mp hm
  have e : (((xs.length : Int) - 1) + (m : Int) * -1).toNat = xs.length - 1 - m := by omega
  rw [e]
  simp [List.getElem?_reverse hm]
section
variable {prog : Program} {w : World} {A :
                                           Around} {E : Value → Shared → Prop} {s : Shared}
theorem applied_rev {sl : Addr} {k : Tok} {n : Nat} {Q : Int × Int × Nat → Shared → Prop} (hs : s.heap.IsSliceOf sl .none .none (.int (-1) k))
    (h : Q ((n : Int) - 1, -1, n) s) : wpAny (model prog w) A (Builtin.Slice.sliceApplied (.ref sl) (pure (n : Int))) Q E s := by
  obtain ⟨os, hos,
                   hcs, hds⟩ := id hs
  unfold Builtin.Slice.sliceApplied
                                    Builtin.Slice.sliceFields
  refine wpAny_bind (wpAny_bind (wpAny_field hos hds (x := .none) rfl (wpAny_bind (wpAny_field hos hds (x := .none) rfl (wpAny_bind (wpAny_field hos hds (x := .int (-1) k) rfl (wpAny_pure ?_)))))))
  refine wpAny_bind (slicePart_int ?_)
  show wpAny _ _ (if ((-1 : Int) == 0) = true then _ else _) _ _ s
  rw [if_neg (by decide)]
  refine wpAny_bind (slicePart_none (wpAny_bind (slicePart_none (wpAny_bind (wpAny_pure ?_)))))
  show wpAny _ _ (match Builtin.Slice.sliceAdjust none none (-1) (n : Int) with | (lo, hi) => pure (lo, (-1 : Int), Builtin.Slice.slicePlaces lo hi (-1))) _ _ s
  rw [adj_rev n]
  show wpAny _ _ (pure ((n : Int) - 1, (-1 : Int), Builtin.Slice.slicePlaces ((n : Int) - 1) (-1) (-1))) _ _ s
  rw [places_rev]
  exact wpAny_pure h
theorem item_tup_rev {t sl : Addr} {items : List Value} {k : Tok} {Q : Value → Shared → Prop} (ht : IsTup s.heap t items.toArray) (hs : s.heap.IsSliceOf sl .none .none (.int (-1) k))
    (h : Q (.ref s.heap.objs.size) { s with heap := s.heap.push { cls := .type "tuple", data := .seq items.reverse.toArray } })
    (hsz : items.length ≤ sizeLine) : wpAny (model prog w) A (getItem (.ref t) (.ref sl)) Q E s := by
  have htake : sizeOk (.seq items.reverse.toArray) := by
    show items.reverse.toArray.size ≤ sizeLine
    rw [List.size_toArray, List.length_reverse]
    exact hsz
  obtain ⟨os, hos,
                   hcs, hds⟩ := id hs
  have hTs : s.TypeIs (.ref
                            sl) "slice" := ⟨os, hos, hcs⟩
  unfold getItem
  try with_reducible
                     refine wpAny_holding ?_
  first | refine wpAny_bind
                            (wpAny_pure ?_) | skip
  refine wpAny_bind (wpAny_sequenceKey
                                       ht.typeIs (by decide) ?_)
  refine wpAny_bind (wpAny_callSpecial?_slot (name := Str.ofString
                                                                   "__getitem__") ht.typeIs PyProof.Rows.slot_tuple_getitem
    (wpAny_call_entry PyProof.Rows.slot_tuple_getitem
                                                      ht.typeIs entry_tuple_getitem ?_ (args_tuple_getitem _ _)))
  show wpAny _ _ (Builtin.Tuple.tupleItemsOf
                                             (.ref t) >>= _) _ _ s
  refine wpAny_bind
                    (tupleItemsOf_ ht ?_)
  refine wpAny_bind
                    (wpAny_typeOf hTs ?_)
  rw [if_pos (by decide)]
  refine wpAny_bind (applied_rev (n := items.toArray.size) hs ?_)
  have e := pick_rev items
  have es : items.toArray.size = items.length := List.size_toArray ..
  have hno : ¬ (((((items.toArray.size : Nat) : Int) - 1) == 0 && (-1 : Int) == 1 && items.toArray.size == items.toArray.size) = true) := by
    intro q
    rw [Bool.and_eq_true,
                          Bool.and_eq_true] at q
    exact absurd q.1.2 (by decide)
  show wpAny _ _ (if ((((items.toArray.size : Nat) : Int) - 1) == 0 && (-1 : Int) == 1 && items.toArray.size == items.toArray.size) = true then _ else _) _ _ s
  rw [if_neg hno]
  show wpAny _ _ (Builtin.Tuple.tupleExact ((List.range items.toArray.size).filterMap fun (m : Nat) => items.toArray[(((items.toArray.size : Int) - 1) + (m : Int) * -1).toNat]?).toArray >>= _) _ _ s
  rw [es, e]
  first
    | exact wpAny_bind (m := Builtin.Tuple.tupleExact _)
                                                         (wpAny_newObj_type (wpAny_pure ⟨_, rfl, wpAny_pure h⟩) htake)
    | exact wpAny_bind (m := Builtin.Tuple.tupleExact _) (wpAny_newObj_type
                                                                            (wpAny_bind (wpAny_pure (wpAny_pure ⟨_, rfl, wpAny_pure h⟩))) htake)
    | exact wpAny_bind (wpAny_bind (m := Builtin.Tuple.tupleExact _)
                                                                     (wpAny_newObj_type (wpAny_pure (wpAny_pure ⟨_, rfl, wpAny_pure h⟩)) htake))
    | exact wpAny_bind (wpAny_bind (m := Builtin.Tuple.tupleExact _)
                                                                     (wpAny_newObj_type (wpAny_pure ⟨_, rfl, wpAny_pure h⟩) htake))
end
def tRev (K : PySem.W.Frag) (te : TE) : TE := fun σ H Q => te σ H fun x H1 => ∃ a xs, x = .ref a ∧ ((SqL K H1 a xs ∧ ∀ p, H1 p = none → Q (.ref p) (upd H1 p (.lst xs.reverse))) ∨ (SqT K H1 a xs ∧ ∀ p o, o.dict = none → H1 p = none → Q (.ref p) (upd H1 p (.frz o (.tup xs.reverse)))))
theorem Vals.rev : ∀ {xs : List V} {us : List Value}, Vals xs us → Vals xs.reverse us.reverse
  | _, _, .nil => .nil
  | x :: xs, u :: us, .cons r t => by rw [List.reverse_cons, List.reverse_cons]; exact (Vals.rev t).append (.cons r .nil)
theorem Paired.rev {α β : Type} {F : α → β → Prop} : ∀ {xs : List α} {ys : List β}, Paired F xs ys → Paired F xs.reverse ys.reverse
  | _, _, .nil => .nil
  | x :: xs, y :: ys, .cons r t => by rw [List.reverse_cons, List.reverse_cons]; exact Paired.app (Paired.rev t) (.cons r .nil)
section
variable {X : Cx} {e : Expr} {te : TE} {pos p2 p3 p4 : Pos} {kj : Nat}
theorem pe_rev (he : PE X e te) : PE X (.Subscript e (.Slice none none (some (.UnaryOp .USub (.Constant (.int 1) kj p4) p3)) p2) pos) (tRev X.K te) := by
  refine ⟨fun pins
                   s σ H Q I h => ?_⟩
  refine Subscript_ (thn (he.run pins s σ H
                                            _ I h) fun v s1 ⟨x, H1, I1, r1, q1⟩ => ?_)
  refine wpAny_Slice ?_
  rw [evalPart_none]
  refine wpAny_pure
                    (wpAny_pure ?_)
  rw [evalPart_some]
  have hm : PE X (.UnaryOp .USub (.Constant (.int 1) kj p4) p3) _ := pe_un un_neg pe_int
  refine thn (hm.run pins s1 σ H1 (fun z H2 => z = .int (-1) ∧ H2 = H1) I1 ⟨1, rfl, rfl, rfl⟩) fun vk s2 ⟨z, H2, I2, rz, ez, eH⟩ => ?_
  subst ez eH
  obtain ⟨k, rfl⟩ := rz
  obtain ⟨a, xs, rfl, q⟩ := q1
  cases r1
  have I3 : Inv X pins σ H2 { s2 with heap := s2.heap.push { cls := .type "slice", data := .fields #[.none, .none, .int (-1) k] } } := I2.kept (t' := s2.toks) fun b ob q => Heap.get?_push_of_some _ q
  have hs : ({ s2 with heap := s2.heap.push { cls := .type "slice", data := .fields #[.none, .none, .int (-1) k] } } : Shared).heap.IsSliceOf s2.heap.objs.size .none .none (.int (-1) k) := Heap.IsSliceOf.new ..
  show wpAny (model X.prog X.w) X.A (subscriptTail e _ (.ref a) (.ref s2.heap.objs.size)) (EP X pins σ Q) X.xe { s2 with heap := s2.heap.push { cls := .type "slice", data := .fields #[.none, .none, .int (-1) k] } }
  generalize hgen : ({ s2 with heap := s2.heap.push { cls := .type "slice", data := .fields #[.none, .none, .int (-1) k] } } : Shared) = s3 at I3 hs ⊢
  rcases q with ⟨hx, q⟩ | ⟨hx, q⟩
  · obtain ⟨its, r, ht, hz⟩ := I3.list hx
    have hlen := r.length
    refine tail_any (ops := [.ref a, .ref s2.heap.objs.size]) ht.isList.typeIs slot_list_getitem.lookup ?_ (by with_unfolding_all rfl)
    refine wpAny_getItem_list_slice ht.isList hs .none .none (.int (-1) k) (by simp) ?_ (by rw [List.size_toArray] <;> omega)
    rw [PySem.W.krv_pick]
    refine ⟨.ref s3.heap.objs.size, _, I3.laid (t' := s3.toks) (o := .lst xs.reverse) (fun b ob q => Heap.get?_push_of_some _ q) (Nat.le_refl _) ?_, rfl, q _ (I3.hok.fresh (Nat.le_refl _))⟩
    exact ⟨by rw [List.length_reverse]; exact hz, its.reverse, 0, Vals.rev r, Heap.get?_push_size _ rfl⟩
  · obtain ⟨its, r, ht, hz⟩ := I3.tuple hx
    have hlen := r.length
    refine tail_any (ops := [.ref a, .ref s2.heap.objs.size]) ht.typeIs PyProof.Rows.slot_tuple_getitem.lookup ?_ (by with_unfolding_all rfl)
    refine item_tup_rev ht hs ?_ (by omega)
    exact ⟨.ref s3.heap.objs.size, _, tup_laid I3 (Vals.rev r) (by rw [List.length_reverse]; exact hz), rfl, q _ _ rfl (I3.hok.fresh (Nat.le_refl _))⟩
end
end Vm

set_option Elab.async false
set_option linter.all false
set_option maxRecDepth 100000
set_option maxHeartbeats 4100000
namespace Vm
open L2 PyProof.Rows PySem PySem.Spec

/-! ### operations whose lists and tuples are frozen -/
def fRev : U → Mh → R U := fun u h => match seqOf u h with
  | some (true, us) => newL us.reverse h
  | some (false, us) => newT us.reverse h
  | none => .stuck
def fAddD : F2 := fun x y h => match x, y with
  | .int i, .int j => .ok (.int (i + j)) h
  | .str a, .str b => if okLen (a.length + b.length) then .ok (.str (a ++ b)) h else .stuck
  | x, y => match seqOf x h, seqOf y h with
    | some (true, xs), some (true, ys) => if okLen (xs.length + ys.length) then newL (xs ++ ys) h else .stuck
    | some (false, xs), some (false, ys) => if okLen (xs.length + ys.length) then (match xs, ys with
      | [], _ => .ok y h
      | _ :: _, [] => .ok x h
      | x :: xs, y :: ys => newT ((x :: xs) ++ (y :: ys)) h) else .stuck
    | _, _ => .stuck
def fMulD : F2 := fun x y h => match x, y with
  | .int i, .int j => if decide ((-(2 ^ 64) < i ∧ i < 2 ^ 64) ∨ (-(2 ^ 64) < j ∧ j < 2 ^ 64)) then .ok (.int (i * j)) h else .stuck
  | x, .int k => match seqOf x h with
    | some (true, xs) => if decide (-(2 ^ 63) ≤ k ∧ k < 2 ^ 63) && okLen (xs.length * k.toNat) then newL (List.replicate k.toNat xs).flatten h else .stuck
    | some (false, xs) => if !xs.isEmpty && decide (2 ≤ k ∧ k ≤ 1000) && decide (xs.length ≤ 1000) then (match pdsOf (List.replicate k.toNat xs).flatten with
      | some ds => .ok (.dat (.tuple ds)) h
      | none => .stuck) else .stuck
    | none => .stuck
  | _, _ => .stuck
def fIxD (ns : List Int) : F2 := fun x y h => match y with
  | .int i => match x with
    | .str z => if okLen z.length then (match atI z.cps.toList i with
      | some c => .ok (.str ⟨#[c]⟩) h
      | none => .stuck) else .stuck
    | .scr => match atI ns i with
      | some k => .ok (.int k) h
      | none => .stuck
    | x => match seqOf x h with
      | some (_, xs) => match atI xs i with
        | some u => .ok u h
        | none => .stuck
      | none => .stuck
  | _ => .stuck
def fSlD (x : U) (lo hi : Option Int) (h : Mh) : R U := match seqOf x h with
  | some (true, xs) => newL (cutU xs lo hi) h
  | some (false, xs) => if HT.sIx xs.length 0 lo = 0 ∧ HT.sIx xs.length xs.length hi = xs.length then .ok x h else newT (cutU xs lo hi) h
  | none => .stuck
def mSlD (a : Me) (l u : Mo) : Me := fun s h => (a s h).bind fun x h1 => (l s h1).bind fun lo h2 => (u s h2).bind fun hi h3 => fSlD x lo hi h3
def fLenD (ns : List Int) : List U → Mh → R U := fun us h => match us with
  | [.str z] => if okLen z.length then .ok (.int z.length) h else .stuck
  | [.scr] => .ok (.int ns.length) h
  | [x] => match seqOf x h with
    | some (_, xs) => .ok (.int xs.length) h
    | none => .stuck
  | _ => .stuck
def fAllD : List U → Mh → R U := fun us h => match us with
  | [x] => match seqOf x h with
    | some (true, xs) => match blsOf xs with
      | some bs => .ok (.bl (bs.all id)) h
      | none => .stuck
    | _ => .stuck
  | _ => .stuck
def fAnyD : List U → Mh → R U := fun us h => match us with
  | [x] => match seqOf x h with
    | some (true, xs) => match blsOf xs with
      | some bs => .ok (.bl (bs.any id)) h
      | none => .stuck
    | _ => .stuck
  | _ => .stuck
def fTupD : List U → Mh → R U := fun us h => match us with
  | [x] => match seqOf x h with
    | some (true, xs) => newT xs h
    | some (false, _) => .ok x h
    | none => .stuck
  | _ => .stuck
/-- list(..), frozen; list(..), to be changed -/
def fLstD : List U → Mh → R U := fun us h => match us with
  | [x] => match seqOf x h with
    | some (_, xs) => newL xs h
    | none => .stuck
  | _ => .stuck
def fLstM : List U → Mh → R U := fun us h => match us with
  | [x] => match seqOf x h with
    | some (_, xs) => newO (.lst xs) h
    | none => .stuck
  | _ => .stuck
section
variable {X : Cx} {g : Gc} {W : WX} {A B Cc : Me} {e a b c : Expr} {pos p2 p3 p4 : Pos} {kj : Nat}
theorem e_rev (hK : X.K = g.K := by assumption) (he : PE X e (T g W A)) : PE X (.Subscript e (.Slice none none (some (.UnaryOp .USub (.Constant (.int 1) kj p4) p3)) p2) pos) (T g W (m1 fRev A)) := by
  refine PE.im (pe_rev he) fun σ H Q q => At.seq (rel := Rl g) q fun ρ1 x s h1 v H1 hs1 c1 r1 p1 => ?_
  unfold fRev at p1
  split at p1
  · rename_i us es
    obtain ⟨a, vs, rfl, rv, k1, _⟩ := seq_ok c1 r1 es
    exact ⟨a, vs, rfl, .inl ⟨SqL.of (k1 rfl), fun p hp => newL_ok (Paired.rev rv) p1 c1 hp⟩⟩
  · rename_i us es
    obtain ⟨a, vs, rfl, rv, _, k2⟩ := seq_ok c1 r1 es
    exact ⟨a, vs, rfl, .inr ⟨by rw [hK]; exact k2 rfl, fun p o ho hp => newT_ok (Paired.rev rv) p1 c1 ho hp⟩⟩
  · exact p1.elim
theorem s_addD {K : PySem.W.Frag} (hK : K = g.K := by assumption) : S2 g fAddD (rAddAll K) := fun E ρ x y vx vy h H Q rx ry cs p => by
  subst hK
  unfold fAddD at p
  split at p
  · exact .inl ⟨_, _, rx, ry, Post.here (rel := Rl g) p cs rfl⟩
  · rename_i i j
    cases eo : okLen (i.length + j.length) with
    | true => rw [eo, if_pos rfl] at p; exact .inr (.inl ⟨i, j, rx, ry, okLen_line eo, Post.here (rel := Rl g) p cs rfl⟩)
    | false => rw [eo, if_neg Bool.false_ne_true] at p; exact p.elim
  · split at p
    · rename_i xs ys e1 e2
      obtain ⟨a, vs, rfl, rv, ha, _⟩ := seq_ok cs rx e1
      obtain ⟨b, ws, rfl, rw', hb, _⟩ := seq_ok cs ry e2
      cases eo : okLen (xs.length + ys.length) with
      | true =>
        rw [eo, if_pos rfl] at p
        exact .inr (.inr (.inl ⟨a, b, vs, ws, rfl, rfl, ha rfl, hb rfl, by rw [← Paired.length rv, ← Paired.length rw']; exact okLen_line eo, fun q hq => newL_ok (Paired.app rv rw') p cs hq⟩))
      | false => rw [eo, if_neg Bool.false_ne_true] at p; exact p.elim
    · rename_i xs ys e1 e2
      obtain ⟨a, vs, rfl, rv, _, ha⟩ := seq_ok cs rx e1
      obtain ⟨b, ws, rfl, rw', _, hb⟩ := seq_ok cs ry e2
      cases eo : okLen (xs.length + ys.length) with
      | true =>
        rw [eo, if_pos rfl] at p
        refine .inr (.inr (.inr ⟨a, b, vs, ws, rfl, rfl, ha rfl, hb rfl, by rw [← Paired.length rv, ← Paired.length rw']; exact okLen_line eo, fun e0 => ?_, fun e0 e1 => ?_, fun e0 e1 q o ho hq => ?_⟩))
        · subst e0
          cases rv
          exact Post.here (rel := Rl g) p cs ry
        · subst e1
          cases rw'
          cases rv with
          | nil => exact absurd rfl e0
          | cons _ _ => exact Post.here (rel := Rl g) p cs rx
        · cases rv with
          | nil => exact absurd rfl e0
          | cons r1 r2 =>
            cases rw' with
            | nil => exact absurd rfl e1
            | cons r3 r4 => exact newT_ok (Paired.app (.cons r1 r2) (.cons r3 r4)) p cs ho hq
      | false => rw [eo, if_neg Bool.false_ne_true] at p; exact p.elim
    · exact p.elim
def rRepX (K : PySem.W.Frag) : R2 := fun x y H Q => ∃ l k xs, x = .ref l ∧ y = .int k ∧ SqT K H l xs ∧ xs ≠ [] ∧ 2 ≤ k ∧ k ≤ 1000 ∧ xs.length ≤ 1000 ∧ ∀ p o, o.dict = none → H p = none → Q (.ref p) (upd H p (.frz o (.tup (List.replicate k.toNat xs).flatten)))
theorem op_repX : OpR X (binaryOp .Mult) (rRepX X.K) := by
  intro pins s σ H x
                     y v u Q I rx ry h
  obtain ⟨l, k, xs, rfl, rfl,
                              hT, hne, h1, h2, hz, q⟩ := h
  cases rx
  obtain ⟨t, rfl⟩ := ry
  obtain ⟨its, r, ⟨⟨cls, dd, data, sl⟩,
                                        ho, hc, n, hd⟩, hs⟩ := I.tuple hT
  simp only at hc hd
  subst hc hd
  have hle : its.length =
                          xs.length := r.length.symm
  have hn : its ≠ []
                     := fun e => hne (by
    rw [e] at hle
    exact List.eq_nil_of_length_eq_zero
                                        hle.symm)
  have hi : its.toArray.isEmpty
                                = false := by
    cases its with
    | nil => exact absurd rfl hn
    | cons a b => rfl
  have hsz0 : its.toArray.size = xs.length
                                           := by rw [List.size_toArray, hle]
  have hm : ((its.toArray.size :
                                 Nat) : Int) * k ≤ 1000000 := by
    rw [hsz0]
    have a1 : ((xs.length : Nat) : Int) * k ≤ 1000 * k :=
                                                          Int.mul_le_mul_of_nonneg_right (by omega) (by omega)
    omega
  have flen : (List.replicate k.toNat
                                      its).flatten.length ≤ sizeLine := by
    rw [PyProof.Rows.lm_len_rep_flat,
                                      hle, sizeLine_eq]
    have a1 : k.toNat * xs.length ≤ 1000
                                         * 1000 := Nat.mul_le_mul (by omega) hz
    omega
  have c0 : (decide (k < -(2 ^ 63)) ||
                                       decide (k ≥ 2 ^ 63)) = false := by
    rw [decide_eq_false (by omega),
                                    decide_eq_false (by omega)] <;> rfl
  have c1 : (its.toArray.isEmpty
                                 || k == 1) = false := by
    rw [hi, Bool.false_or]
    exact beq_eq_false_iff_ne.mpr
                                  (by omega)
  have c2 : (decide (k ≤ 0) ||
                               its.toArray.isEmpty) = false := by
    rw [hi, Bool.or_false]
    exact decide_eq_false
                          (by omega)
  have c4 : Builtin.Tuple.tupleTooMany
                                       (((its.toArray.size : Nat) : Int) * k) = false := by
    unfold
           Builtin.Tuple.tupleTooMany
    rw [sizeLine_eq]
    exact decide_eq_false
                          (by omega)
  refine wpAny_binaryOp_repeat_ref (T := "tuple") (U := "int") (by decide) ⟨_, ho, rfl⟩ (fun s' =>
                                                                                                   typeIs_int s' k t) noFill_tuple_mul F.fills_int_mul F.slot_int_rmul repeat_tuple F.slot_int_index.lookup
    (call_meets F.slot_int_rmul (typeIs_int s k t) F.entry_int_rmul
                                                                    (F.args_int_rmul_2 _ _) (int_rmul_tuple k t l its.toArray n dd sl)
      ⟨ho, rfl, ⟨_, ho, rfl⟩, call_meets F.slot_tuple_mul ⟨_, ho, rfl⟩ F.entry_tuple_mul (F.args_tuple_mul_2 _ _) (tuple_mulW
                                                                                                                              l its.toArray n dd sl k t c0 c1 c2 (by omega) c4 (by rw [size_rep, List.size_toArray]; exact flen)) ⟨ho, ?_⟩⟩)
  rw [size_rep]
  exact ⟨.ref s.heap.objs.size, _, tup_laid I (r.rep k.toNat) (by rw [PyProof.Rows.lm_len_rep_flat, sizeLine_eq]; have a1 : k.toNat * xs.length ≤ 1000 * 1000 := Nat.mul_le_mul (by omega) hz; omega), rfl, q _ _ rfl (I.hok.fresh (Nat.le_refl _))⟩
abbrev rMulD (K : PySem.W.Frag) : R2 := fun x y H Q => rMulAll x y H Q ∨ rRepX K x y H Q
theorem o_mulD : OpR X (binaryOp .Mult) (rMulD X.K) := OpR.or o_mul op_repX
theorem s_mulD {K : PySem.W.Frag} (hK : K = g.K := by assumption) : S2 g fMulD (rMulD K) := fun E ρ x y vx vy h H Q rx ry cs p => by
  subst hK
  unfold fMulD at p
  split at p
  · rename_i i j
    by_cases hc : (-(2 ^ 64) < i ∧ i < 2 ^ 64) ∨ (-(2 ^ 64) < j ∧ j < 2 ^ 64)
    · rw [if_pos (decide_eq_true hc)] at p
      exact .inl (.inl ⟨i, j, rx, ry, hc, Post.here (rel := Rl g) p cs rfl⟩)
    · rw [if_neg (by rw [decide_eq_true_eq]; exact hc)] at p
      exact p.elim
  · rename_i k _
    split at p
    · rename_i xs es
      obtain ⟨a, vs, rfl, rv, ha, _⟩ := seq_ok cs rx es
      cases eo : (decide (-(2 ^ 63) ≤ k ∧ k < 2 ^ 63) && okLen (xs.length * k.toNat)) with
      | true =>
        rw [eo, if_pos rfl] at p
        rw [Bool.and_eq_true] at eo
        obtain ⟨h1, h2⟩ := of_decide_eq_true eo.1
        exact .inl (.inr ⟨a, k, vs, rfl, ry, ha rfl, h1, h2, by rw [← Paired.length rv]; exact okLen_line eo.2, fun q hq => newL_ok (Rls.flat rv _) p cs hq⟩)
      | false => rw [eo, if_neg Bool.false_ne_true] at p; exact p.elim
    · rename_i xs es
      obtain ⟨a, vs, rfl, rv, _, ha⟩ := seq_ok cs rx es
      cases eo : (!xs.isEmpty && decide (2 ≤ k ∧ k ≤ 1000) && decide (xs.length ≤ 1000)) with
      | true =>
        rw [eo, if_pos rfl] at p
        rw [Bool.and_eq_true, Bool.and_eq_true] at eo
        obtain ⟨h1, h2⟩ := of_decide_eq_true eo.1.2
        have h3 := of_decide_eq_true eo.2
        refine .inr ⟨a, k, vs, rfl, ry, ha rfl, fun z => ?_, h1, h2, by rw [← Paired.length rv]; exact h3, fun q o ho hq => ?_⟩
        · subst z
          cases rv
          exact absurd eo.1.1 (by decide)
        · cases ep : pdsOf (List.replicate k.toNat xs).flatten with
          | some ds => rw [ep] at p; exact madeT ep (Rls.flat rv _) p cs ho hq
          | none => rw [ep] at p; exact p.elim
      | false => rw [eo, if_neg Bool.false_ne_true] at p; exact p.elim
    · exact p.elim
  · exact p.elim
theorem s_ixD : S2 g (fIxD g.ns) (rIx g.K) := fun E ρ x y vx vy h H Q rx ry cs p => by
  unfold fIxD at p
  split at p
  · rename_i i
    split at p
    · rename_i z
      cases eo : okLen z.length with
      | true =>
        rw [eo, if_pos rfl] at p
        cases ei : atI z.cps.toList i with
        | none => rw [ei] at p; exact p.elim
        | some u =>
          rw [ei] at p
          exact .inr (.inr ⟨z, i, u, rx, ry, okLen_line eo, ei, Post.here (rel := Rl g) p cs rfl⟩)
      | false => rw [eo, if_neg Bool.false_ne_true] at p; exact p.elim
    · cases ei : atI g.ns i with
      | none => rw [ei] at p; exact p.elim
      | some k =>
        rw [ei] at p
        have e2 : atI (g.ns.map V.int) i = some (.int k) := by
          unfold atI at ei ⊢
          rw [List.length_map]
          cases e3 : ixN g.ns.length i with
          | none => rw [e3] at ei; cases ei
          | some j =>
            rw [e3] at ei
            show (g.ns.map V.int)[j]? = some (.int k)
            rw [List.getElem?_map, show g.ns[j]? = some k from ei]
            rfl
        exact .inl ⟨g.sa, _, i, .int k, rx, ry, cs.sq, e2, Post.here (rel := Rl g) p cs rfl⟩
    · split at p
      · rename_i kk xs es
        obtain ⟨a, vs, rfl, rv, h1, h2⟩ := seq_ok cs rx es
        cases ei : atI xs i with
        | none => rw [ei] at p; exact p.elim
        | some u =>
          rw [ei] at p
          obtain ⟨v, ev, r⟩ := atI_rel rv ei
          have q : Q v H := Post.here (rel := Rl g) p cs r
          cases kk with
          | true => exact .inl ⟨a, vs, i, v, rfl, ry, SqL.of (h1 rfl), ev, q⟩
          | false => exact .inr (.inl ⟨a, vs, i, v, rfl, ry, h2 rfl, ev, q⟩)
      · exact p.elim
  · exact p.elim
theorem e_sliceD {lo hi : Option Expr} {l u : Mo} (hK : X.K = g.K := by assumption) (he : PE X a (T g W A)) (hl : PO X lo (TO' g W l)) (hu : PO X hi (TO' g W u)) : PE X (.Subscript a (.Slice lo hi none p2) pos) (T g W (mSlD A l u)) := by
  refine PE.im (pe_slice sl_all he hl hu) fun σ H Q q => At.seq (rel := Rl g) q fun ρ1 x s h1 v H1 hs1 c1 r1 p1 => ?_
  refine ⟨ρ1, s, h1, hs1, c1, (Post.cut (rel := relO) p1).imp fun o1 H2 ⟨ρ2, o1', h2, e2, c2, r2, p2⟩ => ?_⟩
  cases r2
  refine ⟨ρ2, s, h2, Rsl.mono e2 hs1, c2, (Post.cut (rel := relO) p2).imp fun o2 H3 ⟨ρ3, o2', h3, e3, c3, r3, p3⟩ => ?_⟩
  cases r3
  have r1 : Rl g ρ3 x v := Rl.mono (e2.trans e3) r1
  unfold fSlD at p3
  split at p3
  · rename_i xs es
    obtain ⟨ad, vs, rfl, rv, ha, _⟩ := seq_ok c3 r1 es
    exact .inl ⟨ad, vs, rfl, SqL.of (ha rfl), fun p hp => newL_ok (cut_rel rv) p3 c3 hp⟩
  · rename_i xs es
    obtain ⟨ad, vs, rfl, rv, _, ha⟩ := seq_ok c3 r1 es
    refine .inr ⟨ad, vs, rfl, by rw [hK]; exact ha rfl, ?_⟩
    rw [← Paired.length rv]
    by_cases hw : HT.sIx xs.length 0 o1 = 0 ∧ HT.sIx xs.length xs.length o2 = xs.length
    · rw [if_pos hw] at p3
      exact ⟨fun _ => Post.here (rel := Rl g) p3 c3 r1, fun n => absurd hw n⟩
    · rw [if_neg hw] at p3
      exact ⟨fun n => absurd n hw, fun _ p o ho hp => newT_ok (cut_rel rv) p3 c3 ho hp⟩
  · exact p3.elim
theorem s_lenD : SL g (fLenD g.ns) (rLen g.K) := fun E ρ xs vs h H Q r cs p => by
  unfold fLenD at p
  split at p
  · rename_i z
    obtain ⟨v, rfl, r1⟩ := one_of r
    cases eo : okLen z.length with
    | true =>
      rw [eo, if_pos rfl] at p
      exact .inr ⟨z, by rw [r1], okLen_line eo, Post.here (rel := Rl g) p cs rfl⟩
    | false => rw [eo, if_neg Bool.false_ne_true] at p; exact p.elim
  · obtain ⟨v, rfl, r1⟩ := one_of r
    exact .inl ⟨g.sa, g.ns.map V.int, by rw [r1], .inl cs.sq, by rw [List.length_map]; exact Post.here (rel := Rl g) p cs rfl⟩
  · obtain ⟨v, rfl, r1⟩ := one_of r
    split at p
    · rename_i kk xs es
      obtain ⟨a, vs, rfl, rv, h1, h2⟩ := seq_ok cs r1 es
      have q : Q (.int vs.length) H := by rw [← Paired.length rv]; exact Post.here (rel := Rl g) p cs rfl
      cases kk with
      | true => exact .inl ⟨a, vs, rfl, .inl (SqL.of (h1 rfl)), q⟩
      | false => exact .inl ⟨a, vs, rfl, .inr (h2 rfl), q⟩
    · exact p.elim
  · exact p.elim
theorem s_allD {K : PySem.W.Frag} : SL g fAllD (rAll K) := fun E ρ xs vs h H Q r cs p => by
  unfold fAllD at p
  split at p
  · obtain ⟨v, rfl, r1⟩ := one_of r
    split at p
    · rename_i xs es
      obtain ⟨a, vs, rfl, rv, h1, _⟩ := seq_ok cs r1 es
      split at p
      · rename_i bs eb
        exact ⟨a, bs, rfl, by rw [← bls_rel rv eb]; exact SqL.of (h1 rfl), Post.here (rel := Rl g) p cs rfl⟩
      · exact p.elim
    · exact p.elim
  · exact p.elim
theorem s_anyD {K : PySem.W.Frag} : SL g fAnyD (rAny K) := fun E ρ xs vs h H Q r cs p => by
  unfold fAnyD at p
  split at p
  · obtain ⟨v, rfl, r1⟩ := one_of r
    split at p
    · rename_i xs es
      obtain ⟨a, vs, rfl, rv, h1, _⟩ := seq_ok cs r1 es
      split at p
      · rename_i bs eb
        exact ⟨a, bs, rfl, by rw [← bls_rel rv eb]; exact SqL.of (h1 rfl), Post.here (rel := Rl g) p cs rfl⟩
      · exact p.elim
    · exact p.elim
  · exact p.elim
theorem s_tupD {K : PySem.W.Frag} (hK : K = g.K := by assumption) : SL g fTupD (rTupX K) := fun E ρ xs vs h H Q r cs p => by
  subst hK
  unfold fTupD at p
  split at p
  · obtain ⟨v, rfl, r1⟩ := one_of r
    split at p
    · rename_i xs es
      obtain ⟨a, vs, rfl, rv, h1, _⟩ := seq_ok cs r1 es
      exact ⟨a, vs, rfl, .inl ⟨SqL.of (h1 rfl), fun l o ho hl => newT_ok rv p cs ho hl⟩⟩
    · rename_i xs es
      obtain ⟨a, vs, rfl, rv, _, h2⟩ := seq_ok cs r1 es
      exact ⟨a, vs, rfl, .inr ⟨h2 rfl, Post.here (rel := Rl g) p cs r1⟩⟩
    · exact p.elim
  · exact p.elim
theorem s_lstD {K : PySem.W.Frag} (hK : K = g.K := by assumption) : SL g fLstD (rLst K) := fun E ρ xs vs h H Q r cs p => by
  subst hK
  unfold fLstD at p
  split at p
  · obtain ⟨v, rfl, r1⟩ := one_of r
    split at p
    · rename_i kk xs es
      obtain ⟨a, vs, rfl, rv, h1, h2⟩ := seq_ok cs r1 es
      refine ⟨a, vs, rfl, ?_, fun l hl => newL_ok rv p cs hl⟩
      cases kk with
      | true => exact .inl (SqL.of (h1 rfl))
      | false => exact .inr (h2 rfl)
    · exact p.elim
  · exact p.elim
theorem s_lstM {K : PySem.W.Frag} (hK : K = g.K := by assumption) : SL g fLstM (rLst K) := fun E ρ xs vs h H Q r cs p => by
  subst hK
  unfold fLstM at p
  split at p
  · obtain ⟨v, rfl, r1⟩ := one_of r
    split at p
    · rename_i kk xs es
      obtain ⟨a, vs, rfl, rv, h1, h2⟩ := seq_ok cs r1 es
      refine ⟨a, vs, rfl, ?_, fun l hl => Post.made p cs hl ⟨vs, Rls.mono (pre_snoc _ _) rv, upd_same⟩⟩
      cases kk with
      | true => exact .inl (SqL.of (h1 rfl))
      | false => exact .inr (h2 rfl)
    · exact p.elim
  · exact p.elim
end
end Vm

set_option Elab.async false
set_option linter.all false
set_option maxRecDepth 100000
set_option maxHeartbeats 4100000
namespace Vm
open L2 PyProof.Rows PySem PySem.Spec

/-! ### lists and tuples, walked alike -/
def SqK (k : Bool) (K : PySem.W.Frag) (H : Hp) (a : Addr) (xs : List V) : Prop := match k with
  | true => SqL K H a xs
  | false => SqT K H a xs
def ItK (k : Bool) (h : Heap) (it a : Addr) (i : Nat) : Prop := match k with
  | true => h.IsListIter it a i
  | false => h.IsTupleIter it a i
def SeK (k : Bool) (h : Heap) (a : Addr) (xs : Array Value) : Prop := match k with
  | true => h.IsList a xs
  | false => h.IsTuple a xs
def itO (k : Bool) (a : Addr) : Obj := match k with
  | true => { cls := .type "list_iterator", data := .fields #[.ref a, .int 0 0] }
  | false => { cls := .type "tuple_iterator", data := .fields #[.ref a, .int 0 0] }
theorem ItK.at {k : Bool} {h h' : Heap} {it a : Addr} {i : Nat} (x : ItK k h it a i) (e : ∀ o, h.get? it = some o → h'.get? it = some o) : ItK k h' it a i := by
  cases k with
  | true => exact Heap.IsListIter.at x e
  | false => exact Heap.IsTupleIter.at x e
theorem ItK.obj {k : Bool} {h : Heap} {it a : Addr} {i : Nat} (x : ItK k h it a i) : ∃ o, h.get? it = some o ∧ (∀ v, o.data ≠ .cell v) ∧ (∀ ys n, o.data ≠ .seq ys n) := by
  cases k with
  | true => obtain ⟨o, e, _, d⟩ := x; exact ⟨o, e, fun v q => (by rw [d] at q; cases q), fun _ _ q => (by rw [d] at q; cases q)⟩
  | false => obtain ⟨o, e, _, d⟩ := x; exact ⟨o, e, fun v q => (by rw [d] at q; cases q), fun _ _ q => (by rw [d] at q; cases q)⟩
theorem SeK.obj {k : Bool} {h : Heap} {a : Addr} {xs : Array Value} (x : SeK k h a xs) : ∃ o n, h.get? a = some o ∧ o.data = .seq xs n := by
  cases k with
  | true => obtain ⟨o, e, _, n, d⟩ := x; exact ⟨o, n, e, d⟩
  | false => obtain ⟨o, e, _, n, d⟩ := x; exact ⟨o, n, e, d⟩
theorem SeK.ne {k k' : Bool} {h : Heap} {it a b : Addr} {i : Nat} {xs : Array Value} (x : SeK k h a xs) (y : ItK k' h it b i) : a ≠ it := fun z => by
  subst z
  obtain ⟨o, n, e, d⟩ := x.obj
  obtain ⟨o', e', _, d'⟩ := y.obj
  rw [e] at e'
  cases e'
  exact d' _ _ d
section
variable {X : Cx} {pins : List (Addr × Obj)} {σ : L2.St} {H : Hp} {s : Shared} {a it : Addr} {xs ys : List V} {k : Bool}
theorem SqK.see (I : Inv X pins σ H s) (h : SqK k X.K H a xs) : ∃ its : List Value, Vals xs its ∧ SeK k s.heap a its.toArray ∧ xs.length ≤ sizeLine := by
  cases k with
  | true => obtain ⟨its, r, p, z⟩ := I.list h; exact ⟨its, r, p.isList, z⟩
  | false => obtain ⟨its, r, p, z⟩ := I.tuple h; exact ⟨its, r, p, z⟩
theorem SqK.inj (I : Inv X pins σ H s) (h : SqK k X.K H a xs) (h' : SqK k X.K H a ys) : xs = ys := by
  cases k with
  | true => exact I.list_inj h h'
  | false => exact I.tuple_inj h h'
theorem SqK.lt (I : Inv X pins σ H s) (h : SqK k X.K H a xs) : a < s.heap.objs.size := by
  obtain ⟨its, _, p, _⟩ := h.see I
  obtain ⟨o, n, e, _⟩ := p.obj
  exact Heap.lt_size e
end
theorem drawsK {prog : Program} {w : World} {A : Around} (k : Bool) (hh : A.handled = none) (it t : Addr) (hne : t ≠ it) (items : Array Value) :
    Draws prog w A it [it, t] items.size (fun i v => items[i]? = some v) (fun i h => ItK k h it t i ∧ SeK k h t items) := by
  cases k with
  | true => exact .list hh it t hne items
  | false => exact .tuple hh it t hne items
theorem beginsK (k : Bool) (l : Addr) (items : Array Value) : Begins (.ref l) (itO k l) fun h => SeK k h l items := by
  cases k with
  | true => exact begins_list l items
  | false => exact begins_tuple l items
theorem itO_at {k : Bool} {h : Heap} {it a : Addr} (e : h.get? it = some (itO k a)) : ItK k h it a 0 := by
  cases k with
  | true => exact ⟨_, e, rfl, rfl⟩
  | false => exact ⟨_, e, rfl, rfl⟩

/-! ### for x in s -/
def IteS (k : Bool) (K : PySem.W.Frag) (a : Addr) : It := match k with
  | true => Itl K a
  | false => Itt K a
def iSeq (K : PySem.W.Frag) (td : TE) : TI := fun σ H R => td σ H fun x H1 => ∃ k a, x = .ref a ∧ (∃ xs, SqK k K H1 a xs) ∧ R (IteS k K a) H1
theorem pi_seq {X : Cx} {tg l : Expr} {tl : TE} (hl : PE X l tl) : PI X tg l (iSeq X.K tl) := by
  refine ⟨fun pins
                   s σ H R I h => ?_⟩
  refine thn (hl.run pins s σ H _ I h)
                                       fun v s1 ⟨x, H1, I1, r1, q1⟩ => ?_
  obtain ⟨k, a, e, ⟨xs, hq⟩, q⟩ := q1
  subst e
  cases r1
  cases k with
  | true =>
    obtain ⟨its, rv, p,
                        hz⟩ := I1.list hq
    refine wpAny_pyIter_list
                             p.isList ?_
    refine ⟨s1.heap.objs.size, [s1.heap.objs.size], _, _, H1, rfl, I1.kept (t' := s1.toks) fun b o e =>
                                                                                                        Heap.get?_push_of_some _ e, turn_list a _, ⟨_, Heap.get?_push_size _ rfl, rfl, rfl⟩, fun b hb => ?_, q⟩
    have e : b = s1.heap.objs.size
                                   := by simpa using hb
    subst e
    exact I1.fpOk (Nat.le_refl _)
                                  (I1.hok.fresh (Nat.le_refl _))
  | false =>
    obtain ⟨its, rv, p,
                        hz⟩ := I1.tuple hq
    refine wpAny_pyIter_tuple (show
                                    s1.heap.IsTuple a its.toArray from p) ?_
    refine ⟨s1.heap.objs.size, [s1.heap.objs.size], _, _, H1, rfl, I1.kept (t' := s1.toks) fun b o e =>
                                                                                                        Heap.get?_push_of_some _ e, turn_tuple a _, ⟨_, Heap.get?_push_size _ rfl, rfl, rfl⟩, fun b hb => ?_, q⟩
    have e : b = s1.heap.objs.size
                                   := by simpa using hb
    subst e
    exact I1.fpOk (Nat.le_refl _)
                                  (I1.hok.fresh (Nat.le_refl _))

/-! ### enumerate(s) -/
set_option maxHeartbeats 4000000 in
theorem meets_enum1 {v : Value} {o : Obj} {H : Heap → Prop} (B : Begins v o H) :
    Meets (Builtin.«enumerate.__new__» ⟨[.type "enumerate", v], []⟩) (fun _ R s => H s.heap ∧
      R (.ok (.ret (.ref (s.heap.push o).objs.size))) { s with heap := (s.heap.push o).push { cls := .type "enumerate", data := .fields #[.none, .bool false, .ref s.heap.objs.size, rawInt 0, .none, .none] } }) :=
  .of_wp fun prog
                  w A R s h => by
    obtain ⟨hp, g, d, tk, os⟩
                              := s; obtain ⟨h1, h⟩ := h
    have hsub := sub_enumerate
    have q1 : ∀ {A' : Around} {E : Value → Shared → Prop} {Q : Value → Shared → Prop}, Q (.ref
                                                                                               hp.objs.size) ⟨hp.push o, g, d, tk, os⟩ → wpAny (model prog w) A' (pyIter v) Q E ⟨hp, g, d, tk, os⟩ :=
      fun q => B.iter prog w _ _
                                 ⟨hp, g, d, tk, os⟩ _ h1 q
    wp_walk using q1
    refine wpAny_stack_any
                           fun st => wpAny_pure ?_
    split
    · rename_i c _ _ _ _ _
      cases (c == Value.type
                             "enumerate")
      · wp_walk using q1
        exact ⟨_, rfl, h⟩
      · wp_walk using q1
        exact ⟨_, rfl, h⟩
    · wp_walk using q1
      exact ⟨_, rfl, h⟩
section
variable {prog : Program} {w : World} {A :
                                           Around} {E : Value → Shared → Prop} {s : Shared}
theorem enum1_begins {v : Value} {o : Obj} {H : Heap → Prop} {Q : Value → Shared → Prop} (B : Begins v o H) (h1 : H s.heap)
    (h : ∀ h', IsEnum h' (s.heap.objs.size + 1) s.heap.objs.size 0 .none → h'.get? s.heap.objs.size = some o → h'.objs.size = s.heap.objs.size + 2 →
      (∀ b o, s.heap.get? b = some o → h'.get? b = some o) → Q
                                                               (.ref (s.heap.objs.size + 1)) { s with heap := h' }) :
    wpAny (model prog w) A (call (.type "enumerate") [v]) Q E s := by
  refine callType_new F.called_enumerate (by decide) (F.typeCall_enumerate_1 _)
                                                                                (F.newCall_enumerate_1 _) (fun obj => F.args_object_init_2 obj _) F.entry_enumerate_new
    (meets_enum1 B) ⟨h1, ?_⟩
  have hz : (s.heap.push o).objs.size =
                                        s.heap.objs.size + 1 := Heap.size_push ..
  show _ ∧ _
  rw [hz]
  have he : IsEnum ((s.heap.push o).push { cls := .type "enumerate", data := .fields #[.none, .bool false, .ref s.heap.objs.size, rawInt 0, .none, .none] }) (s.heap.objs.size + 1) s.heap.objs.size 0 .none := by
    have := Heap.get?_push_size (s.heap.push o) (o := { cls := .type "enumerate", data := .fields #[.none, .bool false, .ref s.heap.objs.size, rawInt 0, .none, .none] }) rfl
    rw [hz] at this; exact this
  refine ⟨⟨_, he, rfl⟩, h _ he (Heap.get?_push_of_some _ (Heap.get?_push_size _ B.free)) (by
                                                                                             rw [Heap.size_push, hz]) fun b o x => Heap.get?_push_of_some _ (Heap.get?_push_of_some _ x)⟩
end
def IteE (k : Bool) (K : PySem.W.Frag) (a : Addr) : It :=
  ⟨fun i H => ∃ (xs : List V) (x : V), SqK k K H a xs ∧ xs[i]? = some x, fun i H v H' => ∃ T x, v = .ref T ∧ H T = none ∧ H' = upd H T (.tup [.int (i : Nat), x]) ∧ ∀ xs, SqK k K H a xs → xs[i]? = some x, fun i H => ∃ xs : List V, SqK k K H a xs ∧ xs.length = i⟩
theorem turn_enumK {P : Program} {w : World} {K : PySem.W.Frag} {elts : List Expr} {kk : Nat} {tpos : Pos} (k : Bool) (a e it : Addr) :
    Turn P w K (.Tuple elts kk tpos) (IteE k K a) [e, it] e (fun i h => (∃ old, IsEnum h e it ((i : Nat) : Int) old) ∧ ItK k h it a i ∧ e ≠ it) where
  mem := by simp
  obj := fun i h st b hb => by
    obtain ⟨⟨old, he⟩, hi, _⟩ := st
    have e' : b = e ∨ b =
                          it := by simpa using hb
    rcases e' with z | z
    · rw [z]
      exact ⟨_, he, fun v q => nomatch q⟩
    · rw [z]; obtain ⟨o, ho, hd, _⟩ := hi.obj; exact ⟨o, ho, hd⟩
  keep := fun i h h' st kq => let ⟨⟨old, he⟩, hi, hne⟩ := st; ⟨⟨old, kq e (by simp) _ he⟩, hi.at fun o q => kq it (by simp) o q, hne⟩
  item := by
    intro X hP hw hK hc i
                          pins s σ H E I hf st hg
    subst hP hw hK
    obtain ⟨⟨old, he⟩,
                       hit, hne⟩ := st
    obtain ⟨xs, x, hq, hx⟩ := hg
    obtain ⟨its, rv, p, hz⟩ := hq.see I
    obtain ⟨u, hu,
                   ru⟩ := rv.get hx
    have hel : e < s.heap.objs.size
                                    := Heap.lt_size he
    have hil : it < s.heap.objs.size := by obtain ⟨_, q, _⟩ := hit.obj; exact Heap.lt_size q
    have hai : a ≠ it := p.ne hit
    have hae : e ∉ [it, a] := fun z => by
      have z' : e = it ∨ e = a := by simpa using z
      rcases z' with z' | z'
      · exact hne z'
      · obtain ⟨o, n, q, d⟩ := p.obj
        rw [← z', show s.heap.get? e = _ from he] at q
        cases q
        cases d
    have hlt : i < its.toArray.size := by
      rw [List.size_toArray, ← rv.length]
      exact (List.getElem?_eq_some_iff.mp hx).1
    refine wpAny_pyNext_enum_itemD (drawsK (A := X.A.in1) k (I.ok.hd hc) it a hai its.toArray) he ⟨hit, p⟩ hlt hne hae fun x' h' tk hPx ho hit' hT hsz hk => ?_
    have ex' : x' = u := by
      have : its.toArray[i]? = some u := by simpa using hu
      rw [hPx] at this
      exact Option.some.inj this
    subst ex'
    refine ⟨_, rfl, wpAny_letOwnedTupleGo_enum (s := { s with heap := h', toks := tk + 1 }) ho fun h'' he' sb => ?_⟩
    have hT2 : h''.get? s.heap.objs.size = some { cls := .type "tuple", data := .seq #[.int i tk, x'] } := (sb.2 _ (Nat.ne_of_gt hel)).trans hT
    have new : ObjOk X.prog X.w (upd H s.heap.objs.size (.tup [.int (i
                                                                       : Nat), x])) h'' s.heap.objs.size (.tup [.int (i : Nat), x]) :=
      ⟨by show 2 ≤ sizeLine; decide, [.int i tk, x'], .cons ⟨_, rfl⟩ (.cons ru .nil), ⟨_, hT2, rfl, _, rfl⟩⟩
    have I1 : Inv X pins σ (upd H s.heap.objs.size (.tup [.int (i : Nat), x])) { s with heap := h'', toks := tk + 1 } :=
      I.turnedNew (ch := [e, it]) (fun b ob hb q => (sb.2 b (fun z => hb (by simp [z]))).trans
                                                                                               (hk b ob (fun z => hb (by simp [z])) (fun z => hb (by simp [z])) q)) hf (Nat.le_refl _) new
    refine ⟨.ref s.heap.objs.size, _, I1, rfl, ⟨_, x, rfl, I.hok.fresh (Nat.le_refl _), rfl, fun ys hy => by rw [SqK.inj I hy hq]; exact hx⟩, ⟨⟨x', ?_⟩, hit'.1.at fun o q => (sb.2 it (Ne.symm hne)).trans q, hne⟩, fun b hb => ?_⟩
    · have e1 : ((i + 1 : Nat) :
                                 Int) = (i : Int) + 1 := by omega
      rw [e1]; exact he'
    · have hb' : b <
                     s.heap.objs.size := by
        have e' : b = e ∨ b =
                              it := by simpa using hb
        rcases e' with z | z
        · rw [z]; exact hel
        · rw [z]; exact hil
      rw [upd_ne
                 (Nat.ne_of_lt hb')]
      exact (hf b hb).1
  done := by
    intro X hP hw hK hc i
                          pins s σ H E I hf st hg
    subst hP hw hK
    obtain ⟨⟨old, he⟩,
                       hit, hne⟩ := st
    obtain ⟨xs, hq, hx⟩ := hg
    obtain ⟨its, rv, p, hz⟩ := hq.see I
    obtain ⟨f0, f1, f2, f3,
                            f4, f5⟩ := hf it (by simp)
    have hl := rv.length
    have hn : i = its.toArray.size := by rw [List.size_toArray]; omega
    rw [hn] at hit he
    exact wpAny_pyNext_enum_endD (drawsK (A := X.A.in1) k (I.ok.hd hc) it a (p.ne hit) its.toArray) he ⟨hit, p⟩ fun h' eb => ⟨rfl, I.turned (t' := s.toks) (fun b o hb q => eb b o hb q) f0 f1 f3 f4 f5⟩
  self := fun A i s Q E st h => let ⟨⟨_, he⟩, _⟩ := st
  wpAny_pyIter_enum he h
def iEnumK (K : PySem.W.Frag) (ta : TA) : TI := fun σ H R => ta σ H fun vs H1 => ∃ k a xs, vs = [.ref a] ∧ SqK k K H1 a xs ∧ R (IteE k K a) H1
theorem pi_enumK {X : Cx} {e : Expr} {ta : TA} {p pos tpos : Pos} {elts : List Expr} {kk : Nat} (hg : Gl X "enumerate") (hm : X.mg "enumerate" = none) (ha : PA X [e] ta) (hs : starEach [e] X.env = [(false, eval e X.env)] := by rfl) :
    PI X (.Tuple elts kk tpos) (.Call (.Name "enumerate" p) [e] [] pos) (iEnumK X.K ta) := by
  refine ⟨fun pins
                   s σ H R I h => ?_⟩
  refine Call_ (ld_blt I hg hm boot_enumerate (PyProof.Rows.callWith_type1 (thn
                                                                                (ha.run pos pins s σ H _ I h) fun us s1 ⟨vs, H1, I1, r1, q1⟩ => ?_) hs rfl))
  obtain ⟨k, a, xs, ex, hq, q⟩ := q1
  subst ex
  cases r1 with
  | cons r rr =>
    cases rr
    cases r
    obtain ⟨its, rv, p', hz⟩ := hq.see I1
    refine enum1_begins (beginsK k a its.toArray) p' fun h' he hit hsz hk => wpAny_pyIter_enum he ?_
    have I2 : Inv X pins σ H1 { s1 with heap
                                             := h' } := I1.kept (t' := s1.toks) hk
    refine ⟨s1.heap.objs.size + 1, [s1.heap.objs.size + 1, s1.heap.objs.size], _, _, H1, rfl, I2, turn_enumK k a (s1.heap.objs.size + 1) s1.heap.objs.size, ⟨⟨.none, he⟩, itO_at hit, Nat.succ_ne_self _⟩, fun b hb => ?_, q⟩
    have e' : b = s1.heap.objs.size + 1 ∨ b
                                            = s1.heap.objs.size := by simpa using hb
    have hle :
               s1.heap.objs.size ≤ b := by
      rcases e' with z | z
      · rw [z]
        exact Nat.le_add_right _ _
      · rw [z]; exact Nat.le_refl _
    exact I1.fpOk hle
                      (I1.hok.fresh hle)
end Vm

set_option Elab.async false
set_option linter.all false
set_option maxRecDepth 100000
set_option maxHeartbeats 4100000
namespace Vm
open L2 PyProof.Rows PySem PySem.Spec

/-! ### zip(s, t) -/
def IteZ (k k' : Bool) (K : PySem.W.Frag) (a b : Addr) : It :=
  ⟨fun i H => ∃ (xs ys : List V) (x y : V), SqK k K H a xs ∧ SqK k' K H b ys ∧ xs[i]? = some x ∧ ys[i]? = some y,
    fun i H v H' => ∃ T x y, v = .ref T ∧ H T = none ∧ H' = upd H T (.tup [x, y]) ∧ (∀ xs, SqK k K H a xs → xs[i]? = some x) ∧ ∀ ys, SqK k' K H b ys → ys[i]? = some y,
    fun i H => ∃ xs ys : List V, SqK k K H a xs ∧ SqK k' K H b ys ∧ i ≤ xs.length ∧ i ≤ ys.length ∧ (i = xs.length ∨ i = ys.length)⟩
theorem turn_zipK {P : Program} {w : World} {K : PySem.W.Frag} {elts : List Expr} {kk : Nat} {tpos : Pos} (k k' : Bool) {a b z TI TO i1 i2 : Addr} (D : ZipSep2 z TI TO i1 i2 [i1, a] [i2, b]) :
    Turn P w K (.Tuple elts kk tpos) (IteZ k k' K a b) [z, TI, TO, i1, i2] z (fun i h => IsZip h z TI TO .none ∧ IsTupOf2 h TI (.ref i1) (.ref i2) ∧ (∃ x y, IsTupOf2 h TO x y) ∧ ItK k h i1 a i ∧ ItK k' h i2 b i) where
  mem := by simp
  obj := fun i h st c hc => by
    obtain ⟨hz, hTI, ⟨x,
                         y, hTO⟩, h1, h2⟩ := st
    have e' : c = z ∨ c = TI ∨ c = TO ∨
                                        c = i1 ∨ c = i2 := by simpa using hc
    rcases e' with q
                     | q | q | q | q
    · rw [q]
      exact ⟨_, hz, fun v q => nomatch q⟩
    · rw [q]
      exact ⟨_, hTI, fun v q => nomatch q⟩
    · rw [q]
      exact ⟨_, hTO, fun v q => nomatch q⟩
    · rw [q]; obtain ⟨o, ho, hd, _⟩ := h1.obj; exact ⟨o, ho, hd⟩
    · rw [q]; obtain ⟨o, ho, hd, _⟩ := h2.obj; exact ⟨o, ho, hd⟩
  keep := fun i h h' st kq => by
    obtain ⟨hz, hTI, ⟨x,
                         y, hTO⟩, h1, h2⟩ := st
    exact ⟨kq z (by simp) _ hz, kq TI (by simp) _ hTI, ⟨x, y, kq TO (by simp) _ hTO⟩, h1.at fun o q => kq i1 (by simp) o q, h2.at fun o q => kq i2 (by simp) o q⟩
  item := by
    intro X hP hw hK hc i
                          pins s σ H E I hf st hg
    subst hP hw hK
    obtain ⟨hz, hTI, ⟨x0,
                          y0, hTO⟩, h1, h2⟩ := st
    obtain ⟨xs, ys, x, y,
                          hqx, hqy, hx, hy⟩ := hg
    obtain ⟨its, rv, p, _⟩ := hqx.see I
    obtain ⟨its2, rv2, p2, _⟩ := hqy.see I
    obtain ⟨u, hu,
                   ru⟩ := rv.get hx
    obtain ⟨u2, hu2,
                     ru2⟩ := rv2.get hy
    have hzl : z < s.heap.objs.size
                                    := Heap.lt_size hz
    have lt1 : i < its.toArray.size := by
      rw [List.size_toArray, ← rv.length]
      exact (List.getElem?_eq_some_iff.mp hx).1
    have lt2 : i < its2.toArray.size := by
      rw [List.size_toArray, ← rv2.length]
      exact (List.getElem?_eq_some_iff.mp hy).1
    refine wpAny_pyNext_zipD2_item D (drawsK (A := X.A.in1) k (I.ok.hd hc) i1 a (p.ne h1) its.toArray) (drawsK (A := X.A.in1) k' (I.ok.hd hc) i2 b (p2.ne h2) its2.toArray) hz hTI hTO ⟨h1, p⟩ ⟨h2, p2⟩ lt1 lt2 fun v1 v2 h' tk P1 P2 z' TO' st1 st2 hT hsz hk => ?_
    have e1 : v1 = u := by
      have : its.toArray[i]? = some u := by simpa using hu
      rw [P1] at this
      exact Option.some.inj this
    have e2 : v2 = u2 := by
      have : its2.toArray[i]? = some u2 := by simpa using hu2
      rw [P2] at this
      exact Option.some.inj this
    subst e1 e2
    refine ⟨_, rfl, wpAny_letOwnedTupleGo_zip (s := { s with heap := h', toks := tk }) z' fun h'' z'' sb => ?_⟩
    have hT2 : h''.get? s.heap.objs.size = some { cls := .type "tuple", data := .seq #[v1, v2] } := (sb.2 _ (Nat.ne_of_gt hzl)).trans hT
    have new : ObjOk X.prog X.w (upd H s.heap.objs.size
                                                        (.tup [x, y])) h'' s.heap.objs.size (.tup [x, y]) :=
      ⟨by show 2 ≤ sizeLine; decide, [v1, v2], .cons ru (.cons ru2 .nil), ⟨_, hT2, rfl, _, rfl⟩⟩
    have I1 : Inv X pins σ (upd H s.heap.objs.size (.tup [x, y])) { s with heap := h'', toks := tk } :=
      I.turnedNew (ch := [z, TI, TO, i1, i2]) (fun c o hb q => (sb.2 c (fun q' => hb (by simp [q']))).trans (hk c o (fun q' => hb (by simp [q'])) (fun q' => hb (by simp [q'])) (fun q' => hb (by simp [q'])) (fun q' => hb (by simp [q'])) q)) hf (Nat.le_refl _) new
    refine ⟨.ref s.heap.objs.size, _, I1, rfl, ⟨_, x, y, rfl, I.hok.fresh (Nat.le_refl _), rfl, fun l hl => by rw [SqK.inj I hl hqx]; exact hx, fun l hl => by rw [SqK.inj I hl hqy]; exact hy⟩, ⟨z'', ?_, ⟨v1, v2, ?_⟩, ?_, ?_⟩, fun c hcm => ?_⟩
    · exact (sb.2 _ D.TIz).trans (hk _
                                       _ D.TIz D.TITO D.TIi1 D.TIi2 hTI)
    · exact (sb.2 _
                    D.TOz).trans TO'
    · exact st1.1.at fun o q => (sb.2 _ (Ne.symm D.zi1)).trans q
    · exact st2.1.at fun o q => (sb.2 _ (Ne.symm D.zi2)).trans q
    · have hlt : c <
                     s.heap.objs.size := by
        have e' : c = z ∨ c = TI ∨ c = TO ∨
                                            c = i1 ∨ c = i2 := by simpa using hcm
        rcases e' with q
                         | q | q | q | q
        · rw [q]; exact hzl
        · rw [q]
          exact Heap.lt_size hTI
        · rw [q]
          exact Heap.lt_size hTO
        · rw [q]; obtain ⟨_, e1, _⟩ := h1.obj; exact Heap.lt_size e1
        · rw [q]; obtain ⟨_, e2, _⟩ := h2.obj; exact Heap.lt_size e2
      rw [upd_ne
                 (Nat.ne_of_lt hlt)]
      exact (hf c hcm).1
  done := by
    intro X hP hw hK hc i
                          pins s σ H E I hf st hg
    subst hP hw hK
    obtain ⟨hz, hTI, ⟨x0,
                          y0, hTO⟩, h1, h2⟩ := st
    obtain ⟨xs, ys, hqx, hqy, l1, l2, hend⟩ := hg
    obtain ⟨its, rv, p, _⟩ := hqx.see I
    obtain ⟨its2, rv2, p2, _⟩ := hqy.see I
    have n1 : its.toArray.size = xs.length := by rw [List.size_toArray, rv.length]
    have n2 : its2.toArray.size = ys.length := by rw [List.size_toArray, rv2.length]
    refine wpAny_pyNext_zipD2_end D (drawsK (A := X.A.in1) k (I.ok.hd hc) i1 a (p.ne h1) its.toArray) (drawsK (A := X.A.in1) k' (I.ok.hd hc) i2 b (p2.ne h2) its2.toArray) hz hTI hTO ⟨h1, p⟩ ⟨h2, p2⟩ (by omega) (by omega) (by omega) fun h' tk hk => ⟨rfl, I.turnedL (ch := [z, TI, TO, i1, i2]) (fun c o hb q =>
      hk c o (fun q' => hb (by simp [q'])) (fun q' => hb (by simp [q']))
                                                                         (fun q' => hb (by simp [q'])) (fun q' => hb (by simp [q'])) q) hf⟩
  self := fun A i s Q E st h
                             => wpAny_pyIter_zip st.1 h
def iZipK (K : PySem.W.Frag) (ta : TA) : TI := fun σ H R => ta σ H fun vs H1 => ∃ k k' a b xs ys, vs = [.ref a, .ref b] ∧ SqK k K H1 a xs ∧ SqK k' K H1 b ys ∧ R (IteZ k k' K a b) H1
theorem pi_zipK {X : Cx} {e e2 : Expr} {ta : TA} {p pos tpos : Pos} {elts : List Expr} {kk : Nat} (hg : Gl X "zip") (hm : X.mg "zip" = none) (ha : PA X [e, e2] ta)
    (hs : starEach [e, e2] X.env = (false, eval e X.env) :: starEach [e2] X.env := by
                                                                                      rfl) (hpl : (backTo pos (starEach [e2] X.env)).any (·.1) = false := by rfl) :
    PI X (.Tuple elts kk tpos) (.Call (.Name "zip" p) [e, e2] [] pos) (iZipK X.K ta) := by
  refine ⟨fun pins
                   s σ H R I h => ?_⟩
  refine Call_ (ld_blt I hg hm PyProof.Rows.boot_zip (PyProof.Rows.callWith_type1
                                                                                  (thn (ha.run pos pins s σ H _ I h) fun us s1 ⟨vs, H1, I1, r1, q1⟩ => ?_) hs hpl))
  obtain ⟨k, k', a, b, xs, ys, ex, hqx, hqy, q⟩ := q1
  subst ex
  cases r1 with
  | cons r rr =>
    cases rr with
    | cons r' rr =>
      cases rr
      cases r
      cases r'
      have fresh5 : ∀ c, c ∈ [s1.heap.objs.size + 4, s1.heap.objs.size + 2, s1.heap.objs.size
                                                                                              + 3, s1.heap.objs.size, s1.heap.objs.size + 1] → FpOk X pins H1 c := fun c hcm => by
        have e' : c = s1.heap.objs.size + 4 ∨ c = s1.heap.objs.size + 2 ∨ c = s1.heap.objs.size
                                                                                                + 3 ∨ c = s1.heap.objs.size ∨ c = s1.heap.objs.size + 1 := by simpa using hcm
        have hle :
                   s1.heap.objs.size ≤ c := by
          rcases e' with z
                           | z | z | z | z
          · rw [z]
            exact Nat.le_add_right _ _
          · rw [z]
            exact Nat.le_add_right _ _
          · rw [z]
            exact Nat.le_add_right _ _
          · rw [z]; exact Nat.le_refl _
          · rw [z]
            exact Nat.le_add_right _ _
        exact I1.fpOk hle
                          (I1.hok.fresh hle)
      obtain ⟨its, rv, p1, _⟩ := hqx.see I1
      obtain ⟨its2, rv2, p2, _⟩ := hqy.see I1
      refine zip_begins2 (beginsK k a its.toArray) (beginsK k' b its2.toArray) p1 p2 fun h' hz hTI hTO h1 h2 hsz hk => wpAny_pyIter_zip hz ?_
      have I2 : Inv X pins σ H1 { s1 with heap
                                               := h' } := I1.kept (t' := s1.toks) hk
      exact ⟨s1.heap.objs.size + 4, [s1.heap.objs.size + 4, s1.heap.objs.size + 2, s1.heap.objs.size + 3, s1.heap.objs.size, s1.heap.objs.size + 1], _, _, H1, rfl, I2,
        turn_zipK k k' (zip_sep2 (fun c hc => by rw [List.mem_singleton.mp hc]; exact hqx.lt I1) (fun c hc => by rw [List.mem_singleton.mp hc]; exact hqy.lt I1)), ⟨hz, hTI, ⟨_, _, hTO⟩, itO_at h1, itO_at h2⟩, fresh5, q⟩
end Vm

set_option Elab.async false
set_option linter.all false
set_option maxRecDepth 100000
set_option maxHeartbeats 4100000
namespace Vm
open L2 PyProof.Rows PySem PySem.Spec

/-! ### an address held apart -/
structure Away (ρ : Wd) (h : Mh) (H : Hp) (D : Addr) : Prop where
  fz : ρ.fz D = none
  lk : ρ.lk D = none
  as : D ∉ ρ.as
def Wd.hold (r : Wd) (D : Addr) (o : HO) : Wd := ⟨r.as, r.fz, upd r.lk D o⟩
section
variable {g : Gc} {ρ ρ' : Wd} {h h' : Mh} {H H' : Hp} {D : Addr} {o : HO}
theorem Cs.out (c : Cs g ρ h H) (hD : H D = none) : Away ρ h H D := ⟨c.fzH.free hD, c.lkH.free hD, fun z => by
  obtain ⟨w, e⟩ := c.trk z
  rw [hD] at e
  cases e⟩
theorem Cs.hold (c : Cs g ρ h H) (a : Away ρ h H D) (e : H D = some o) : Cs g (ρ.hold D o) h H :=
  ⟨c.len, fun n o' b e1 e2 => by
    have m := c.at_ n o' b e1 e2
    have lx : Wd.Lx ρ (ρ.hold D o) := ⟨List.prefix_refl _, fun _ _ q => q⟩
    cases o' with
    | lst xs => obtain ⟨vs, r, q⟩ := m; exact ⟨vs, Rls.mx lx r, q⟩
    | tup xs => obtain ⟨vs, o, r, d, q⟩ := m; exact ⟨vs, o, Rls.mx lx r, d, q⟩
    | tpl xs => obtain ⟨vs, r, q⟩ := m; exact ⟨vs, Rls.mx lx r, q⟩
    | ins c fs => obtain ⟨dx, gs, r, q⟩ := m; exact ⟨dx, gs, Rf.mx lx r, q⟩
    | exc c fs =>
      rcases m with ⟨e0, q⟩ | ⟨dx, gs, r, q, q2⟩
      · exact .inl ⟨e0, q⟩
      · exact .inr ⟨dx, gs, Rf.mx lx r, q, q2⟩
    | ded => exact m, c.inj, c.scr, fun a dd fs ex => by
    obtain ⟨gs, r, q⟩ := c.xn a dd fs ex
    exact ⟨gs, Rf.mx ⟨List.prefix_refl _, fun _ _ q => q⟩ r, q⟩, c.fzH, fun b u q => by
    by_cases z : b = D
    · subst z
      have q : upd ρ.lk b o b = some u := q
      rw [upd_same] at q
      cases q
      exact e
    · have q : upd ρ.lk D o b = some u := q
      rw [upd_ne z] at q
      exact c.lkH b u q, fun n o' b e1 e2 => by
    obtain ⟨q1, q2⟩ := c.apt n o' b e1 e2
    refine ⟨?_, q2⟩
    have hb : b ≠ D := by
      intro z
      subst z
      exact a.as (List.mem_of_getElem? e2)
    show upd ρ.lk D o b = none
    rw [upd_ne hb]
    exact q1, c.nfl⟩
/-- behind what was done while it was held -/
theorem Wd.Le.freed (e : Wd.Le (ρ.hold D o) ρ') (a : Away ρ h H D) : Wd.Le ρ ⟨ρ'.as, ρ'.fz, ρ.lk⟩ :=
  ⟨e.as, e.fz, rfl, fun b h1 h2 => e.nw b h1 (by
    show upd ρ.lk D o b ≠ none
    rw [upd_ne (fun z => by rw [z, a.lk] at h2; exact h2 rfl)]
    exact h2)⟩
theorem Wd.Le.same (e : Wd.Le (ρ.hold D o) ρ') (c : Cs g ρ' h' H') : H' D = some o := c.lkH D o (by rw [e.lk]; exact upd_same)
theorem Wd.Le.away (e : Wd.Le (ρ.hold D o) ρ') (a : Away ρ h H D) (c : Cs g ρ' h' H') : Away ⟨ρ'.as, ρ'.fz, ρ.lk⟩ h' H' D :=
  ⟨e.nw D a.fz (by rw [show (ρ.hold D o).lk D = some o from upd_same]; exact fun z => nomatch z), a.lk, fun z => by
    obtain ⟨n, hn, q⟩ := List.getElem_of_mem z
    have hl : n < h'.length := by rw [← c.len]; exact hn
    have q2 : ρ'.as[n]? = some D := by rw [← q]; exact List.getElem?_eq_getElem hn
    have k := (c.apt n _ D (List.getElem?_eq_getElem hl) q2).1
    rw [e.lk] at k
    rw [show (ρ.hold D o).lk D = some o from upd_same] at k
    cases k⟩
theorem Cs.freed (c : Cs g ρ' h' H') (e : Wd.Le (ρ.hold D o) ρ') (a : Away ρ h H D) (c0 : Cs g ρ h H) (nf : (∀ o w, H' D ≠ some (.frz o w)) ∧ (∀ φ : Heap → Prop, H' D ≠ some (HO.ext φ)) ∧ ∀ gs, H' D ≠ some (.xd gs)) (u : HO) : Cs g ⟨ρ'.as, ρ'.fz, ρ.lk⟩ h' (upd H' D u) := by
  have aw := e.away a c
  have lx : Wd.Lx ρ' ⟨ρ'.as, ρ'.fz, ρ.lk⟩ := ⟨List.prefix_refl _, fun _ _ q => q⟩
  refine ⟨c.len, fun n o' b e1 e2 => Om.rx lx (c.at_ n o' b e1 e2) (fun z => aw.as (z ▸ List.mem_of_getElem? e2)) nf.2.1, c.inj, c.scr.upd nf.1, fun a' dd fs ex => ?_, c.fzH.upd aw.fz, fun b q hq => ?_, fun n o' b e1 e2 => ?_, c.nfl⟩
  · obtain ⟨gs, r, q⟩ := c.xn a' dd fs ex
    refine ⟨gs, Rf.mx lx r, ?_⟩
    rw [upd_ne]
    · exact q
    · intro z
      rw [z] at q
      exact nf.2.2 _ q
  · have hq : ρ.lk b = some q := hq
    have hb : b ≠ D := fun z => by rw [z, a.lk] at hq; cases hq
    rw [upd_ne hb]
    refine c.lkH b q ?_
    rw [e.lk]
    show upd ρ.lk D o b = some q
    rw [upd_ne hb]
    exact hq
  · obtain ⟨q1, q2⟩ := c.apt n o' b e1 e2
    refine ⟨?_, q2⟩
    show ρ.lk b = none
    have hb : b ≠ D := by
      intro z
      subst z
      exact aw.as (List.mem_of_getElem? e2)
    rw [e.lk] at q1
    have q1 : upd ρ.lk D o b = none := q1
    rw [upd_ne hb] at q1
    exact q1
theorem Cs.frzOld (c : Cs g ρ h H) (a : Away ρ h H D) (e : H D = some o) (hu : ∀ o' xs, o ≠ .frz o' (.lst xs)) : Cs g (ρ.frz D o) h H ∧ Wd.Le ρ (ρ.frz D o) := by
  have le : Wd.Le ρ (ρ.frz D o) := ⟨List.prefix_refl _, fun b u q => (by show upd ρ.fz D o b = some u; rw [upd_ne (fun z => by rw [z, a.fz] at q; cases q)]; exact q), rfl, fun b h1 h2 => (by
    show upd ρ.fz D o b = none
    rw [upd_ne (fun z => by rw [z, a.lk] at h2; exact h2 rfl)]
    exact h1)⟩
  refine ⟨⟨c.len, fun n o' b e1 e2 => ?_, c.inj, c.scr, fun a' dd fs ex => ?_, fun b u q => ?_, c.lkH, fun n o' b e1 e2 => ?_, fun b o' xs q => ?_⟩, le⟩
  · have m := c.at_ n o' b e1 e2
    cases o' with
    | lst xs => obtain ⟨vs, r, q⟩ := m; exact ⟨vs, Rls.mono le r, q⟩
    | tup xs => obtain ⟨vs, o, r, d, q⟩ := m; exact ⟨vs, o, Rls.mono le r, d, q⟩
    | tpl xs => obtain ⟨vs, r, q⟩ := m; exact ⟨vs, Rls.mono le r, q⟩
    | ins c fs => obtain ⟨dx, gs, r, q⟩ := m; exact ⟨dx, gs, Rf.mono le r, q⟩
    | exc c fs =>
      rcases m with ⟨e0, q⟩ | ⟨dx, gs, r, q, q2⟩
      · exact .inl ⟨e0, q⟩
      · exact .inr ⟨dx, gs, Rf.mono le r, q, q2⟩
    | ded => exact m
  · obtain ⟨gs, r, q⟩ := c.xn a' dd fs ex
    exact ⟨gs, Rf.mono le r, q⟩
  · have q : upd ρ.fz D o b = some u := q
    by_cases z : b = D
    · subst z
      rw [upd_same] at q
      cases q
      exact e
    · rw [upd_ne z] at q
      exact c.fzH b u q
  · obtain ⟨q1, q2⟩ := c.apt n o' b e1 e2
    have hb : b ≠ D := by
      intro z
      subst z
      exact a.as (List.mem_of_getElem? e2)
    refine ⟨q1, fun hd => ?_⟩
    show upd ρ.fz D o b = none
    rw [upd_ne hb]
    exact q2 hd
  · have q : upd ρ.fz D o b = some (.frz o' (.lst xs)) := q
    by_cases z : b = D
    · subst z
      rw [upd_same] at q
      exact hu _ _ (Option.some.inj q)
    · rw [upd_ne z] at q
      exact c.nfl b o' xs q
end

/-! ### walks of fixed things -/
def itF (us : List U) : Itm := fun i h => if i ≤ us.length then .ok us[i]? h else .stuck
abbrev Mw := Sl → Mh → R (List U)
def toMi (m : Mw) : Mi := fun s h => (m s h).bind fun us h1 => .ok (itF us) h1
def datSeq : U → Option (Bool × List PyData)
  | .dat (.list ds) => some (true, ds)
  | .dat (.tuple ds) => some (false, ds)
  | _ => none
/-- a walk's things by the values of its arguments -/
def wOf (f : List U → Option (List U)) (L : Ml) : Mw := fun s h => (L s h).bind fun us h1 => match f us with
  | some l => .ok l h1
  | none => .stuck
def w1Of (f : U → Option (List U)) (A : Me) : Mw := fun s h => (A s h).bind fun u h1 => match f u with
  | some l => .ok l h1
  | none => .stuck
def upI (lo : Int) : Nat → List U
  | 0 => []
  | n + 1 => .int lo :: upI (lo + 1) n
def enumD : Nat → List PyData → List U
  | _, [] => []
  | i, d :: ds => .pr [.int (i : Nat), d] :: enumD (i + 1) ds
def zipD : List PyData → List PyData → List U
  | d :: ds, e :: es => .pr [d, e] :: zipD ds es
  | _, _ => []
def vSeq : U → Option (List U) := fun u => match datSeq u with
  | some (_, ds) => some (ds.map ofPd)
  | none => none
def vR1 : List U → Option (List U)
  | [.int j] => if decide (-(2 ^ 62) ≤ j ∧ j < 2 ^ 62) then some (upI 0 j.toNat) else none
  | _ => none
def vR2 : List U → Option (List U)
  | [.int i, .int j] => if decide (-(2 ^ 62) ≤ i ∧ i < 2 ^ 62 ∧ -(2 ^ 62) ≤ j ∧ j < 2 ^ 62) then some (upI i (j - i).toNat) else none
  | _ => none
def vEnum : List U → Option (List U)
  | [u] => match datSeq u with
    | some (_, ds) => some (enumD 0 ds)
    | none => none
  | _ => none
def vZip : List U → Option (List U)
  | [u, v] => match datSeq u, datSeq v with
    | some (_, ds), some (_, es) => some (zipD ds es)
    | _, _ => none
  | _ => none
def vStr : U → Option (List U)
  | .str z => some (z.cps.toList.map fun c => .str ⟨#[c]⟩)
  | _ => none
abbrev wSeq := w1Of vSeq
abbrev wStr := w1Of vStr
abbrev wR1 := wOf vR1
abbrev wR2 := wOf vR2
abbrev wEnum := wOf vEnum
abbrev wZip := wOf vZip
section
variable {g : Gc} {ρ ρ' : Wd} {h h' : Mh} {H H' : Hp}
theorem dat_ok {u : U} {v : V} {k : Bool} {ds : List PyData} (r : Rl g ρ u v) (e : datSeq u = some (k, ds)) : ∃ a vs, v = .ref a ∧ SqK k g.K ρ.fz a vs ∧ DqAll g.K ρ.fz vs ds := by
  unfold datSeq at e
  split at e
  · cases e
    cases r.2 with
    | lst hs ha => exact ⟨_, _, rfl, SqL.of hs, ha⟩
  · cases e
    cases r.2 with
    | tup hs ha => exact ⟨_, _, rfl, hs.sq, ha⟩
  · cases e
theorem SqK.hle {k : Bool} {K : PySem.W.Frag} {a : Addr} {xs : List V} (h : SqK k K H a xs) (e : Hle H H') : SqK k K H' a xs := by
  cases k with
  | true => exact SqL.hle h e
  | false => exact SqT.hle h e
theorem itF_get {us : List U} {vs : List V} {i : Nat} {x : U} (r : Rls g ρ us vs) (e : us[i]? = some x) : ∃ v, vs[i]? = some v ∧ Rl g ρ x v := Paired.get r e
/-- a fixed list, a fixed tuple -/
theorem itF_seq {k : Bool} {K : PySem.W.Frag} {a : Addr} {us : List U} {vs : List V} (hq : SqK k g.K ρ.fz a vs) (rv : Rls g ρ us vs) (hK : K = g.K) : ItOk g ρ (itF us) (IteS k K a) := fun ρ2 i h H e2 c2 => by
  subst hK
  unfold itF
  by_cases hi : i ≤ us.length
  · rw [if_pos hi]
    have hq2 : SqK k g.K H a vs := (hq.hle e2.fz).hle c2.fzH
    cases ex : us[i]? with
    | none =>
      have hl : vs.length ≤ i := by
        rw [← Paired.length rv]
        exact List.getElem?_eq_none_iff.mp ex
      cases k with
      | true => exact ⟨rfl, vs, hq2, hl⟩
      | false => exact ⟨rfl, vs, hq2, hl⟩
    | some x =>
      obtain ⟨v, ev, r⟩ := Paired.get rv ex
      cases k with
      | true =>
        refine ⟨⟨vs, v, hq2, ev⟩, fun v' H' y => ?_⟩
        obtain ⟨rfl, y⟩ := y
        have ev' := y vs hq2
        rw [ev] at ev'
        cases ev'
        exact ⟨ρ2, Wd.refl _, c2, Rl.mx e2 r⟩
      | false =>
        refine ⟨⟨vs, v, hq2, ev⟩, fun v' H' y => ?_⟩
        obtain ⟨rfl, y⟩ := y
        have ev' := y vs hq2
        rw [ev] at ev'
        cases ev'
        exact ⟨ρ2, Wd.refl _, c2, Rl.mx e2 r⟩
  · rw [if_neg hi]
    trivial
theorem upI_get {lo : Int} : ∀ {n i : Nat} {x : U}, (upI lo n)[i]? = some x → i < n ∧ x = .int (lo + (i : Nat)) := fun {n} => by
  induction n generalizing lo with
  | zero => intro i x e; unfold upI at e; simp at e
  | succ n ih =>
    intro i x e
    unfold upI at e
    cases i with
    | zero =>
      rw [List.getElem?_cons_zero] at e
      cases e
      exact ⟨Nat.succ_pos _, by simp⟩
    | succ i =>
      rw [List.getElem?_cons_succ] at e
      obtain ⟨h1, h2⟩ := ih e
      exact ⟨Nat.succ_lt_succ h1, by rw [h2]; congr 1; omega⟩
theorem upI_len {lo : Int} : ∀ {n : Nat}, (upI lo n).length = n := fun {n} => by
  induction n generalizing lo with
  | zero => rfl
  | succ n ih => unfold upI; rw [List.length_cons, ih]
theorem itF_range {lo : Int} {n : Nat} : ItOk g ρ (itF (upI lo n)) (Itr lo n) := fun ρ2 i h H e2 c2 => by
  unfold itF
  by_cases hi : i ≤ (upI lo n).length
  · rw [if_pos hi]
    cases ex : (upI lo n)[i]? with
    | none =>
      have hl := List.getElem?_eq_none_iff.mp ex
      rw [upI_len] at hl
      exact ⟨rfl, hl⟩
    | some x =>
      obtain ⟨h1, rfl⟩ := upI_get ex
      refine ⟨h1, fun v H' y => ?_⟩
      obtain ⟨rfl, rfl⟩ := y
      exact ⟨ρ2, Wd.refl _, c2, rfl⟩
  · rw [if_neg hi]
    trivial
theorem DqAll.get : ∀ {K : PySem.W.Frag} {vs : List V} {ds : List PyData} {i : Nat} {d : PyData}, DqAll K H vs ds → ds[i]? = some d → ∃ v, vs[i]? = some v ∧ Dq K H v d
  | _, _, _, _, _, .nil, e => by simp at e
  | _, _, _, 0, _, .cons r _, e => by simp at e; subst e; exact ⟨_, rfl, r⟩
  | _, _, _, i + 1, d, .cons _ t, e => by
    obtain ⟨v, h1, h2⟩ := DqAll.get (i := i) t (by simpa using e)
    exact ⟨v, by simpa using h1, h2⟩
theorem enumD_len : ∀ {ds : List PyData} {j : Nat}, (enumD j ds).length = ds.length
  | [], _ => rfl
  | d :: ds, j => by unfold enumD; rw [List.length_cons, List.length_cons, enumD_len]
theorem enumD_get : ∀ {ds : List PyData} {j i : Nat} {x : U}, (enumD j ds)[i]? = some x → ∃ d, ds[i]? = some d ∧ x = .pr [.int ((j + i : Nat) : Int), d]
  | [], _, i, _, e => by unfold enumD at e; simp at e
  | d :: ds, j, 0, x, e => by
    unfold enumD at e
    rw [List.getElem?_cons_zero] at e
    cases e
    exact ⟨d, rfl, rfl⟩
  | d :: ds, j, i + 1, x, e => by
    unfold enumD at e
    rw [List.getElem?_cons_succ] at e
    obtain ⟨d', h1, h2⟩ := enumD_get e
    exact ⟨d', by rw [List.getElem?_cons_succ]; exact h1, by rw [h2, show j + 1 + i = j + (i + 1) from by omega]⟩
theorem itF_enum {k : Bool} {a : Addr} {ds : List PyData} {vs : List V} (hq : SqK k g.K ρ.fz a vs) (ha : DqAll g.K ρ.fz vs ds) : ItOk g ρ (itF (enumD 0 ds)) (IteE k g.K a) := fun ρ2 i h H e2 c2 => by
  unfold itF
  have hq2 : SqK k g.K H a vs := (hq.hle e2.fz).hle c2.fzH
  by_cases hi : i ≤ (enumD 0 ds).length
  · rw [if_pos hi]
    cases ex : (enumD 0 ds)[i]? with
    | none =>
      have hl := List.getElem?_eq_none_iff.mp ex
      refine ⟨rfl, vs, hq2, ?_⟩
      rw [ha.len, ← enumD_len (j := 0)]
      omega
    | some x =>
      obtain ⟨d, ed, rfl⟩ := enumD_get ex
      obtain ⟨v, ev, r⟩ := ha.get ed
      refine ⟨⟨vs, v, hq2, ev⟩, fun v' H' y => ?_⟩
      obtain ⟨T, x, rfl, hT, rfl, y⟩ := y
      have ev' := y vs hq2
      rw [ev] at ev'
      cases ev'
      refine ⟨ρ2.frz T _, c2.frz_le hT, c2.newF hT (fun _ _ z => by cases z), ?_⟩
      have same : (ρ2.frz T (.tup [.int (i : Nat), v])).fz T = some (.tup [.int (i : Nat), v]) := upd_same
      refine ⟨T, _, rfl, same, .cons ?_ (.cons (Dq.hle (c2.frz_le hT).fz _ _ (Dq.hle e2.fz _ _ r)) .nil)⟩
      rw [Nat.zero_add]
      exact .int _
  · rw [if_neg hi]
    trivial
theorem zipD_get : ∀ {ds es : List PyData} {i : Nat} {x : U}, (zipD ds es)[i]? = some x → ∃ d e, ds[i]? = some d ∧ es[i]? = some e ∧ x = .pr [d, e]
  | [], es, i, _, q => by unfold zipD at q; simp at q
  | d :: ds, [], i, _, q => by unfold zipD at q; simp at q
  | d :: ds, e :: es, 0, x, q => by
    unfold zipD at q
    rw [List.getElem?_cons_zero] at q
    cases q
    exact ⟨d, e, rfl, rfl, rfl⟩
  | d :: ds, e :: es, i + 1, x, q => by
    unfold zipD at q
    rw [List.getElem?_cons_succ] at q
    obtain ⟨d', e', h1, h2, h3⟩ := zipD_get q
    exact ⟨d', e', by rw [List.getElem?_cons_succ]; exact h1, by rw [List.getElem?_cons_succ]; exact h2, h3⟩
theorem zipD_len : ∀ {ds es : List PyData}, (zipD ds es).length = min ds.length es.length
  | [], es => by unfold zipD; simp
  | d :: ds, [] => by unfold zipD; simp
  | d :: ds, e :: es => by unfold zipD; rw [List.length_cons, List.length_cons, List.length_cons, zipD_len]; omega
theorem itF_zip {k k' : Bool} {a b : Addr} {ds es : List PyData} {vs ws : List V} (hq : SqK k g.K ρ.fz a vs) (ha : DqAll g.K ρ.fz vs ds) (hq' : SqK k' g.K ρ.fz b ws) (hb : DqAll g.K ρ.fz ws es) : ItOk g ρ (itF (zipD ds es)) (IteZ k k' g.K a b) := fun ρ2 i h H e2 c2 => by
  unfold itF
  have hq2 : SqK k g.K H a vs := (hq.hle e2.fz).hle c2.fzH
  have hq3 : SqK k' g.K H b ws := (hq'.hle e2.fz).hle c2.fzH
  by_cases hi : i ≤ (zipD ds es).length
  · rw [if_pos hi]
    have hl1 := ha.len
    have hl2 := hb.len
    have hz := zipD_len (ds := ds) (es := es)
    cases ex : (zipD ds es)[i]? with
    | none =>
      have hl := List.getElem?_eq_none_iff.mp ex
      exact ⟨rfl, vs, ws, hq2, hq3, by omega, by omega, by omega⟩
    | some x =>
      obtain ⟨d, e, ed, ee, rfl⟩ := zipD_get ex
      obtain ⟨v, ev, r⟩ := ha.get ed
      obtain ⟨w, ew, r'⟩ := hb.get ee
      refine ⟨⟨vs, ws, v, w, hq2, hq3, ev, ew⟩, fun v' H' y => ?_⟩
      obtain ⟨T, x, y, rfl, hT, rfl, y1, y2⟩ := y
      have ev' := y1 vs hq2
      rw [ev] at ev'
      cases ev'
      have ew' := y2 ws hq3
      rw [ew] at ew'
      cases ew'
      refine ⟨ρ2.frz T _, c2.frz_le hT, c2.newF hT (fun _ _ z => by cases z), ?_⟩
      have same : (ρ2.frz T (.tup [v, w])).fz T = some (.tup [v, w]) := upd_same
      exact ⟨T, _, rfl, same, .cons (Dq.hle (c2.frz_le hT).fz _ _ (Dq.hle e2.fz _ _ r)) (.cons (Dq.hle (c2.frz_le hT).fz _ _ (Dq.hle e2.fz _ _ r')) .nil)⟩
  · rw [if_neg hi]
    trivial
end
end Vm

set_option Elab.async false
set_option linter.all false
set_option maxRecDepth 100000
set_option maxHeartbeats 4100000
namespace Vm
open L2 PyProof.Rows PySem PySem.Spec

section
variable {X : Cx} {g : Gc} {W : WX} {a b c e : Expr} {A B Cc : Me} {pos : Pos} {L : Ml}
theorem wOf_read {f : List U → Option (List U)} {σ : L2.St} {H : Hp} {R' : It → Hp → Prop} (q : TIt g W (toMi (wOf f L)) σ H R') : TL g W L σ H fun vs H1 => ∃ ρ1 us h1 l, Rls g ρ1 us vs ∧ Cs g ρ1 h1 H1 ∧ f us = some l ∧ ∀ J, ItOk g ρ1 (itF l) J → R' J H1 := by
  obtain ⟨ρ, s, h, hs, cs, p⟩ := q
  refine ⟨ρ, s, h, hs, cs, ?_⟩
  unfold toMi wOf at p
  cases eA : L s h with
  | ok us h1 =>
    rw [eA] at p
    simp only [R.bind] at p
    intro ρ1 vs H1 e1 c1 r1
    cases ef : f us with
    | none => rw [ef] at p; exact p.elim
    | some l => rw [ef] at p; exact ⟨ρ1, us, h1, l, r1, c1, ef, fun J k => p ρ1 J H1 e1 c1 k⟩
  | ex cc ff h1 => rw [eA] at p; exact p
  | stuck => rw [eA] at p; exact p.elim
theorem w1Of_read {f : U → Option (List U)} {σ : L2.St} {H : Hp} {R' : It → Hp → Prop} (q : TIt g W (toMi (w1Of f A)) σ H R') : T g W A σ H fun v H1 => ∃ ρ1 u h1 l, Rl g ρ1 u v ∧ Cs g ρ1 h1 H1 ∧ f u = some l ∧ ∀ J, ItOk g ρ1 (itF l) J → R' J H1 := by
  obtain ⟨ρ, s, h, hs, cs, p⟩ := q
  refine ⟨ρ, s, h, hs, cs, ?_⟩
  unfold toMi w1Of at p
  cases eA : A s h with
  | ok us h1 =>
    rw [eA] at p
    simp only [R.bind] at p
    intro ρ1 vs H1 e1 c1 r1
    cases ef : f us with
    | none => rw [ef] at p; exact p.elim
    | some l => rw [ef] at p; exact ⟨ρ1, us, h1, l, r1, c1, ef, fun J k => p ρ1 J H1 e1 c1 k⟩
  | ex cc ff h1 => rw [eA] at p; exact p
  | stuck => rw [eA] at p; exact p.elim
/-- a wish that follows -/
theorem TL.imp {σ : L2.St} {H : Hp} {Q Q' : List V → Hp → Prop} (q : TL g W L σ H Q) (i : ∀ vs H, Q vs H → Q' vs H) : TL g W L σ H Q' := by
  obtain ⟨ρ, s, h, hs, cs, p⟩ := q
  exact ⟨ρ, s, h, hs, cs, Post.imp p i⟩
theorem T.imp {σ : L2.St} {H : Hp} {Q Q' : V → Hp → Prop} (q : T g W A σ H Q) (i : ∀ vs H, Q vs H → Q' vs H) : T g W A σ H Q' := by
  obtain ⟨ρ, s, h, hs, cs, p⟩ := q
  exact ⟨ρ, s, h, hs, cs, Post.imp p i⟩
theorem wi_seq {tg : Expr} (hK : X.K = g.K := by assumption) (ha : PE X a (T g W A)) : PI X tg a (TIt g W (toMi (wSeq A))) := by
  refine PI.im (pi_seq ha) fun σ H R' q => T.imp (w1Of_read q) fun v H1 ⟨ρ1, u, h1, l, r, c1, ef, k⟩ => ?_
  rw [hK]
  unfold vSeq at ef
  cases ed : datSeq u with
  | none => rw [ed] at ef; cases ef
  | some kd =>
    obtain ⟨kk, ds⟩ := kd
    rw [ed] at ef
    cases ef
    obtain ⟨ad, vs, rfl, hq, ha⟩ := dat_ok r ed
    exact ⟨kk, ad, rfl, ⟨vs, hq.hle c1.fzH⟩, k _ (itF_seq hq (ofs_ok ha) rfl)⟩
theorem wi_range1 {tg : Expr} {p : Pos} (hg : Gl X "range") (hm : X.mg "range" = none) (ha : PA X [a] (TL g W L)) (hs : starEach [a] X.env = [(false, eval a X.env)] := by rfl) : PI X tg (.Call (.Name "range" p) [a] [] pos) (TIt g W (toMi (wR1 L))) := by
  refine PI.im (pi_range1 hg hm ha hs) fun σ H R' q => TL.imp (wOf_read q) fun vs H1 ⟨ρ1, us, h1, l, r, c1, ef, k⟩ => ?_
  unfold vR1 at ef
  split at ef
  · rename_i j
    obtain ⟨v, rfl, rr⟩ := one_of r
    cases ed : decide (-(2 ^ 62) ≤ j ∧ j < 2 ^ 62) with
    | false => rw [ed, if_neg Bool.false_ne_true] at ef; cases ef
    | true =>
      rw [ed, if_pos rfl] at ef
      cases ef
      obtain ⟨h1, h2⟩ := of_decide_eq_true ed
      exact ⟨j, by rw [rr], h1, h2, k _ itF_range⟩
  · cases ef
theorem wi_range2 {tg : Expr} {p : Pos} (hg : Gl X "range") (hm : X.mg "range" = none) (ha : PA X [a, b] (TL g W L)) (hs : starEach [a, b] X.env = [(false, eval a X.env), (false, eval b X.env)] := by rfl) (hs2 : starEach [b] X.env = [(false, eval b X.env)] := by rfl) : PI X tg (.Call (.Name "range" p) [a, b] [] pos) (TIt g W (toMi (wR2 L))) := by
  refine PI.im (pi_range2 hg hm ha hs hs2) fun σ H R' q => TL.imp (wOf_read q) fun vs H1 ⟨ρ1, us, h1, l, r, c1, ef, k⟩ => ?_
  unfold vR2 at ef
  split at ef
  · rename_i i j
    obtain ⟨v, w, rfl, rr, rr'⟩ := two_of r
    cases ed : decide (-(2 ^ 62) ≤ i ∧ i < 2 ^ 62 ∧ -(2 ^ 62) ≤ j ∧ j < 2 ^ 62) with
    | false => rw [ed, if_neg Bool.false_ne_true] at ef; cases ef
    | true =>
      rw [ed, if_pos rfl] at ef
      cases ef
      obtain ⟨h1, h2, h3, h4⟩ := of_decide_eq_true ed
      exact ⟨i, j, by rw [rr, rr'], ⟨h1, h2, h3, h4⟩, k _ itF_range⟩
  · cases ef
theorem wi_enum {p tpos : Pos} {elts : List Expr} {kk : Nat} (hK : X.K = g.K := by assumption) (hg : Gl X "enumerate") (hm : X.mg "enumerate" = none) (ha : PA X [a] (TL g W L)) (hs : starEach [a] X.env = [(false, eval a X.env)] := by rfl) : PI X (.Tuple elts kk tpos) (.Call (.Name "enumerate" p) [a] [] pos) (TIt g W (toMi (wEnum L))) := by
  refine PI.im (pi_enumK hg hm ha hs) fun σ H R' q => TL.imp (wOf_read q) fun vs H1 ⟨ρ1, us, h1, l, r, c1, ef, k⟩ => ?_
  rw [hK]
  unfold vEnum at ef
  split at ef
  · rename_i u
    obtain ⟨v, rfl, rr⟩ := one_of r
    cases ed : datSeq u with
    | none => rw [ed] at ef; cases ef
    | some kd =>
      obtain ⟨k1, ds⟩ := kd
      rw [ed] at ef
      cases ef
      obtain ⟨ad, vs, rfl, hq, ha⟩ := dat_ok rr ed
      exact ⟨k1, ad, vs, rfl, hq.hle c1.fzH, k _ (itF_enum hq ha)⟩
  · cases ef
theorem wi_zip {p tpos : Pos} {elts : List Expr} {kk : Nat} (hK : X.K = g.K := by assumption) (hg : Gl X "zip") (hm : X.mg "zip" = none) (ha : PA X [a, b] (TL g W L)) (hs : starEach [a, b] X.env = (false, eval a X.env) :: starEach [b] X.env := by rfl) (hpl : (backTo pos (starEach [b] X.env)).any (·.1) = false := by rfl) : PI X (.Tuple elts kk tpos) (.Call (.Name "zip" p) [a, b] [] pos) (TIt g W (toMi (wZip L))) := by
  refine PI.im (pi_zipK hg hm ha hs hpl) fun σ H R' q => TL.imp (wOf_read q) fun vs H1 ⟨ρ1, us, h1, l, r, c1, ef, k⟩ => ?_
  rw [hK]
  unfold vZip at ef
  split at ef
  · rename_i u u'
    obtain ⟨v, w, rfl, rr, rr'⟩ := two_of r
    cases ed : datSeq u with
    | none => rw [ed] at ef; cases ef
    | some kd =>
      cases ed' : datSeq u' with
      | none => rw [ed, ed'] at ef; cases ef
      | some kd' =>
        obtain ⟨k1, ds⟩ := kd
        obtain ⟨k2, ds'⟩ := kd'
        rw [ed, ed'] at ef
        cases ef
        obtain ⟨ad, vs, rfl, hq, ha⟩ := dat_ok rr ed
        obtain ⟨ad', vs', rfl, hq', ha'⟩ := dat_ok rr' ed'
        exact ⟨k1, k2, ad, ad', vs, vs', rfl, hq.hle c1.fzH, hq'.hle c1.fzH, k _ (itF_zip hq ha hq' ha')⟩
  · cases ef
theorem itF_str {ρ : Wd} {z : Str} : ItOk g ρ (itF (z.cps.toList.map fun c => .str ⟨#[c]⟩)) (Its z) := fun ρ2 i h H e2 c2 => by
  unfold itF
  by_cases hi : i ≤ (z.cps.toList.map fun c => U.str ⟨#[c]⟩).length
  · rw [if_pos hi]
    cases ex : (z.cps.toList.map fun c => U.str ⟨#[c]⟩)[i]? with
    | none =>
      have hl := List.getElem?_eq_none_iff.mp ex
      rw [List.length_map, Array.length_toList] at hl
      exact ⟨rfl, hl⟩
    | some x =>
      rw [List.getElem?_map, Array.getElem?_toList] at ex
      cases ec : z.cps[i]? with
      | none => rw [ec] at ex; cases ex
      | some c =>
        rw [ec] at ex
        cases ex
        refine ⟨(Array.getElem?_eq_some_iff.mp ec).1, fun v H' y => ?_⟩
        obtain ⟨rfl, c', ec', rfl⟩ := y
        rw [ec] at ec'
        cases ec'
        exact ⟨ρ2, Wd.refl _, c2, rfl⟩
  · rw [if_neg hi]
    trivial
theorem wi_str {tg : Expr} (ha : PE X a (T g W A)) : PI X tg a (TIt g W (toMi (wStr A))) := by
  refine PI.im (pi_str ha) fun σ H R' q => T.imp (w1Of_read q) fun v H1 ⟨ρ1, u, h1, l, r, c1, ef, k⟩ => ?_
  unfold vStr at ef
  split at ef
  · rename_i z
    cases ef
    exact ⟨z, r, k _ itF_str⟩
  · cases ef
end

/-! ### for over a fixed walk -/
def loopF (t : Gt) (b : Ms) : List U → Sl → Mh → RS
  | [], s, h => .nx s h
  | x :: xs, s, h => match t x s h with
    | some s1 => match b s1 h with
      | .nx s2 h2 => loopF t b xs s2 h2
      | .ct s2 h2 => loopF t b xs s2 h2
      | .bk s2 h2 => .nx s2 h2
      | r => r
    | none => .stuck
def sForF (m : Mw) (t : Gt) (b : Ms) : Ms := fun s h => (m s h).bindS s fun us h1 => if decide (us.length < lim) then loopF t b us s h1 else .stuck
theorem loop_eq {t : Gt} {b : Ms} {us : List U} : ∀ {n i : Nat} {s : Sl} {h : Mh}, i ≤ us.length → us.length < n + i → loopS (itF us) t b n i s h = loopF t b (us.drop i) s h := fun {n} => by
  induction n with
  | zero => intro i s h h1 h2; omega
  | succ n ih =>
    intro i s h h1 h2
    unfold loopS itF
    rw [if_pos h1]
    cases ei : us[i]? with
    | none =>
      have hl := List.getElem?_eq_none_iff.mp ei
      rw [List.drop_eq_nil_of_le hl]
      rfl
    | some x =>
      obtain ⟨hl, hx⟩ := List.getElem?_eq_some_iff.mp ei
      rw [List.drop_eq_getElem_cons hl, hx]
      simp only [loopF]
      cases et : t x s h with
      | none => rfl
      | some s1 =>
        simp only
        cases eb : b s1 h with
        | nx s2 h2' => exact ih hl (by omega)
        | ct s2 h2' => exact ih hl (by omega)
        | bk s2 h2' => rfl
        | rt u h2' => rfl
        | ex c f s2 h2' => rfl
        | stuck => rfl
section
variable {X : Cx} {g : Gc} {W : WX} {M : Ms} {pos : Pos}
theorem s_forF {tg iter : Expr} {body : List Stmt} {m : Mw} {is : List Nat} {t : Gt} (hp : PassesOwn (model X.prog X.w) X.A X.env X.xe) (hc : X.calm = true) (hi : PI X tg iter (TIt g W (toMi m))) (hg : PG X tg (TGm g is t)) (hb : PSs X body (TSm g W M))
    (hs : ∀ x, foldedSetIterable iter X.env x = pure x := by intro _; rfl) : PS X (.For tg iter body [] pos) (TSm g W (sForF m t M)) := by
  refine PS.im (s_for hp hc hi hg hb hs) fun D σ H ⟨ρ, s, h, hs, cs, p⟩ => ⟨ρ, s, h, hs, cs, ?_⟩
  unfold sFor toMi
  unfold sForF at p
  cases em : m s h with
  | ok us h1 =>
    rw [em] at p
    simp only [R.bind, R.bindS] at p ⊢
    cases eo : decide (us.length < lim) with
    | true =>
      rw [eo, if_pos rfl] at p
      have hz := of_decide_eq_true eo
      rw [loop_eq (Nat.zero_le _) (by simpa using hz), List.drop_zero]
      exact p
    | false => rw [eo, if_neg Bool.false_ne_true] at p; exact p.elim
  | ex c f h1 => rw [em] at p; exact p
  | stuck => rw [em] at p; exact p.elim
end
end Vm

set_option Elab.async false
set_option linter.all false
set_option maxRecDepth 100000
set_option maxHeartbeats 4100000
namespace Vm
open L2 PyProof.Rows PySem PySem.Spec

/-! ### comprehensions over fixed walks, frozen -/
def loopCF (t : Gt) (q : Mb) (e : Me) (s : Sl) : List U → Mh → R (List U)
  | [], h => .ok [] h
  | x :: xs, h => match t x s h with
    | some s1 => match q s1 h with
      | .ok true h2 => match e s1 h2 with
        | .ok y h3 => match loopCF t q e s xs h3 with
          | .ok ys h4 => .ok (y :: ys) h4
          | _ => .stuck
        | _ => .stuck
      | .ok false h2 => loopCF t q e s xs h2
      | _ => .stuck
    | none => .stuck
def mLcF (m : Mw) (t : Gt) (q : Mb) (e : Me) (vs : List Nat) : Me := fun s h => (m s h).bind fun us h1 => if decide (us.length < lim) then (match loopCF t q e (wipeM s vs) us h1 with
  | .ok ys h2 => newL ys h2
  | _ => .stuck) else .stuck
/-- what is left behind the acc so far -/
def lcRest (t : Gt) (q : Mb) (e : Me) (s : Sl) (acc : List U) (us : List U) (h : Mh) : R U := match loopCF t q e s us h with
  | .ok ys h2 => newL (acc ++ ys) h2
  | _ => .stuck
theorem loopCF_cons {t : Gt} {q : Mb} {e : Me} {s s1 : Sl} {us : List U} {x y : U} {h h2 h3 : Mh} (et : t x s h = some s1) (eq : q s1 h = .ok true h2) (ee : e s1 h2 = .ok y h3) : loopCF t q e s (x :: us) h = (match loopCF t q e s us h3 with
    | .ok ys h4 => .ok (y :: ys) h4
    | _ => .stuck) := by
  rw [loopCF, et]
  simp only [eq, ee]
theorem lcRest_cons {t : Gt} {q : Mb} {e : Me} {s s1 : Sl} {acc us : List U} {x y : U} {h h2 h3 : Mh} (et : t x s h = some s1) (eq : q s1 h = .ok true h2) (ee : e s1 h2 = .ok y h3) : lcRest t q e s acc (x :: us) h = lcRest t q e s (acc ++ [y]) us h3 := by
  unfold lcRest
  rw [loopCF_cons et eq ee]
  cases loopCF t q e s us h3 with
  | ok ys h4 => simp only [List.append_assoc, List.singleton_append]
  | ex c f h4 => rfl
  | stuck => rfl
theorem lcRest_skip {t : Gt} {q : Mb} {e : Me} {s s1 : Sl} {acc us : List U} {x : U} {h h2 : Mh} (et : t x s h = some s1) (eq : q s1 h = .ok false h2) : lcRest t q e s acc (x :: us) h = lcRest t q e s acc us h2 := by
  unfold lcRest
  rw [loopCF, et]
  simp only [eq]
section
variable {g : Gc} {W : WX}
theorem lc_readF {m : Mw} {is : List Nat} {t : Gt} {q : Mb} {el : Me} {vs : List Nat} (hv : ∀ i ∈ is, i ∈ vs) {σ : L2.St} {H : Hp} {Q : VK} (z : T g W (mLcF m t q el vs) σ H Q) : tLc (TIt g W (toMi m)) (TGm g is t) (TB g W0 q) (T g W0 el) vs σ H Q := by
  obtain ⟨ρ0, s, h0, hs0, cs0, p0⟩ := z
  refine ⟨ρ0, s, h0, hs0, cs0, ?_⟩
  unfold mLcF at p0
  unfold toMi
  cases em : m s h0 with
  | ex c f h1 => rw [em] at p0; exact p0
  | stuck => rw [em] at p0; exact p0.elim
  | ok us h1 =>
  rw [em] at p0
  simp only [R.bind] at p0 ⊢
  cases eo : decide (us.length < lim) with
  | false => rw [eo, if_neg Bool.false_ne_true] at p0; exact p0.elim
  | true =>
  rw [eo, if_pos rfl] at p0
  have hlim := of_decide_eq_true eo
  have p1 : Post g (Rl g) ρ0 (lcRest t q el (wipeM s vs) [] us h1) Q (WE W σ) := by
    unfold lcRest
    simpa using p0
  intro ρ1 J H1 e1 c1 k1
  have hs1 : Rsl g ρ1 s σ := Rsl.mono e1 hs0
  intro D hD
  have cD : Cs g ρ1 h1 (upd H1 D (.lst [])) := c1.skip hD
  have aD : Away ρ1 h1 (upd H1 D (.lst [])) D := ⟨(c1.out hD).fz, (c1.out hD).lk, (c1.out hD).as⟩
  refine ⟨fun i n H => ∃ ρ h acc accv, Wd.Le ρ1 ρ ∧ Cs g ρ h H ∧ Away ρ h H D ∧ H D = some (.lst accv) ∧ Rls g ρ acc accv ∧ acc.length ≤ i ∧ i ≤ us.length ∧ n = us.length - i ∧ Post g (Rl g) ρ (lcRest t q el (wipeM s vs) acc (us.drop i) h) Q (WE W σ),
    ⟨us.length, ρ1, h1, [], [], Wd.refl _, cD, aD, upd_same, .nil, Nat.le_refl _, Nat.zero_le _, rfl, Post.mono e1 p1⟩, ?_⟩
  rintro i n H ⟨ρ, h, acc, accv, e2, cs, aw, eD, ra, la, li, rfl, p⟩
  have ws : Rsl g ρ (wipeM s vs) (wipe σ vs) := Rsl.mono e2 (Rsl.wipe hs1 vs)
  have cL := cs.hold aw eD
  have lxL : Wd.Lx ρ (ρ.hold D (.lst accv)) := ⟨List.prefix_refl _, fun _ _ q => q⟩
  have kk := k1 (ρ.hold D (.lst accv)) i h H (e2.lx.trans lxL) cL
  have nfD : ∀ {H' : Hp}, H' D = some (.lst accv) → (∀ o w, H' D ≠ some (.frz o w)) ∧ (∀ φ : Heap → Prop, H' D ≠ some (HO.ext φ)) ∧ ∀ gs, H' D ≠ some (.xd gs) := fun e => nfL e
  cases ei : us[i]? with
  | none =>
    have hl := List.getElem?_eq_none_iff.mp ei
    unfold itF at kk
    rw [if_pos li, ei] at kk
    obtain ⟨_, st⟩ := kk
    refine .inl ⟨st, ?_⟩
    rw [List.drop_eq_nil_of_le hl] at p
    have p : Post g (Rl g) ρ (newL (acc ++ []) h) Q (WE W σ) := p
    rw [List.append_nil] at p
    unfold newL at p
    cases ep : pdsOf acc with
    | none => rw [ep] at p; exact p.elim
    | some ds =>
      rw [ep] at p
      obtain ⟨c3, le3⟩ := cs.frzOld aw eD (fun _ _ z => by cases z)
      have same : (ρ.frz D (.lst accv)).fz D = some (.lst accv) := upd_same
      exact p (ρ.frz D (.lst accv)) (.ref D) H le3 c3 ⟨rfl, .lst same (DqAll.hle le3.fz _ _ (pds_ok ra ep))⟩
  | some x =>
    obtain ⟨hl, hx⟩ := List.getElem?_eq_some_iff.mp ei
    unfold itF at kk
    rw [if_pos li, ei] at kk
    obtain ⟨go, yl⟩ := kk
    rw [List.drop_eq_getElem_cons hl, hx] at p
    refine .inr ⟨go, fun H' => ∃ ρ h acc accv, Wd.Le ρ1 ρ ∧ Cs g ρ h H' ∧ Away ρ h H' D ∧ H' D = some (.lst accv) ∧ Rls g ρ acc accv ∧ acc.length ≤ i + 1 ∧ i + 1 ≤ us.length ∧ Post g (Rl g) ρ (lcRest t q el (wipeM s vs) acc (us.drop (i + 1)) h) Q (WE W σ),
      fun H' ⟨r1, r2, r3, r4, r5, r6, r7, r8, r9, r10, r11, r12⟩ => ⟨us.length - (i + 1), by omega, r1, r2, r3, r4, r5, r6, r7, r8, r9, r10, r11, rfl, r12⟩, fun v H' y => ?_⟩
    obtain ⟨ρ2, f2, c2, r2⟩ := yl v H' y
    refine ⟨ρ2, x, wipeM s vs, h, r2, Rsl.mono f2 (show Rsl g (ρ.hold D (.lst accv)) _ _ from Paired.mapP ws fun x y r => by
      cases x with
      | none => trivial
      | some u =>
        cases y with
        | none => exact r
        | some v => exact Rl.mx lxL r), c2, ?_⟩
    cases et : t x (wipeM s vs) h with
    | none =>
      unfold lcRest loopCF at p
      rw [et] at p
      exact p.elim
    | some s1 =>
      refine fun σ1 hs1 hw1 => ⟨(hw1 vs hv).trans wipe_self, ρ2, s1, h, hs1, c2, ?_⟩
      cases eq : q s1 h with
      | ex c f h3 =>
        unfold lcRest loopCF at p
        rw [et] at p
        simp only [eq] at p
        exact p.elim
      | stuck =>
        unfold lcRest loopCF at p
        rw [et] at p
        simp only [eq] at p
        exact p.elim
      | ok k h3 =>
        intro ρ3 k' H3 f3 c3 r3
        cases r3
        have f23 := f2.trans f3
        cases k with
        | false =>
          rw [if_neg
                     Bool.false_ne_true]
          rw [lcRest_skip et eq] at p
          have eD3 := f23.same c3
          have ff := f23.freed aw
          have c3' := c3.freed f23 aw cs (nfD eD3) (.lst accv)
          have eu : upd H3 D (.lst accv) = H3 := by
            funext b
            by_cases z : b = D
            · rw [z, upd_same, eD3]
            · rw [upd_ne z]
          rw [eu] at c3'
          exact ⟨_, h3, acc, accv, e2.trans ff, c3', f23.away aw c3, eD3, Rls.mono ff ra, by omega, hl, Post.mono ff p⟩
        | true =>
          rw [if_pos rfl]
          refine ⟨ρ3, s1, h3, Rsl.mono f3 hs1, c3, ?_⟩
          cases ee : el s1 h3 with
          | ex c f h4 =>
            unfold lcRest loopCF at p
            rw [et] at p
            simp only [eq, ee] at p
            exact p.elim
          | stuck =>
            unfold lcRest loopCF at p
            rw [et] at p
            simp only [eq, ee] at p
            exact p.elim
          | ok y h4 =>
            rw [lcRest_cons et eq ee] at p
            intro ρ4 yv H4 f4 c4 r4
            have f24 := f23.trans f4
            have eD4 := f24.same c4
            have ff := f24.freed aw
            have c4' := c4.freed f24 aw cs (nfD eD4) (.lst (accv ++ [yv]))
            have aw4 := f24.away aw c4
            refine ⟨accv, eD4, by rw [← Paired.length ra]; exact lim_line (by unfold lim at hlim; omega), ⟨ρ4.as, ρ4.fz, ρ.lk⟩, h4, acc ++ [y], accv ++ [yv], e2.trans ff, c4', ⟨aw4.fz, aw4.lk, aw4.as⟩, upd_same, Paired.app (Rls.mono ff ra) (.cons (Rl.mx ⟨List.prefix_refl _, fun _ _ q => q⟩ r4) .nil), ?_, hl, Post.mono ff p⟩
            rw [List.length_append]
            show acc.length + 1 ≤ i + 1
            omega
theorem e_lcF {X : Cx} {pos : Pos} {elt tg iter : Expr} {ifs : List Expr} {scope : Scope} {own : List (Str × Nat)} {m : Mw} {is : List Nat} {t : Gt} {q : Mb} {el : Me} (hc : X.calm = true) (hN : X.N.Nodup) (hi : PI X tg iter (TIt g W (toMi m))) (ok : BlkOk X.N X.env.scope scope own)
    (hg : ∀ (s : Shared) (H : Hp) (C : Addr) (cl : List (Str × Addr)) (fp : List Addr), PG (X.blk s H scope (compEnvC scope cl C X.env) fp) tg (TGm g is t)) (ht : ∀ (s : Shared) (H : Hp) (C : Addr) (cl : List (Str × Addr)) (fp : List Addr), PTs (X.blk s H scope (compEnvC scope cl C X.env) fp) ifs (TB g W0 q))
    (he : ∀ (s : Shared) (H : Hp) (C : Addr) (cl : List (Str × Addr)) (fp : List Addr), PE (X.blk s H scope (compEnvC scope cl C X.env) fp) elt (T g W0 el)) (hv : ∀ i ∈ is, i ∈ own.map (·.2)) (hs : ∀ x, foldedSetIterable iter X.env x = pure x := by intro _; rfl) :
    PE X (.ListComp elt [⟨tg, iter, ifs, 0⟩] scope pos) (T g W (mLcF m t q el (own.map (·.2)))) :=
  PE.im (pe_lc hc hN hi ok hg ht he hs) fun σ H Q z => lc_readF hv z
theorem s_setLcF {X : Cx} {pos : Pos} {i : Nat} {y : Str} {py spos : Pos} {elt tg iter : Expr} {ifs : List Expr} {scope : Scope} {own : List (Str × Nat)} {m : Mw} {is : List Nat} {t : Gt} {q : Mb} {el : Me} (hc : X.calm = true) (hN : X.N.Nodup) (hy : X.N[i]? = some y) (hyl : X.env.scope.names.lookup y = some .local)
    (hsw : swapsWith (.ListComp elt [⟨tg, iter, ifs, 0⟩] scope pos) (some (.Name y py)) spos.line X.env = pure true) (hi : PI X tg iter (TIt g W (toMi m))) (ok : BlkOk X.N X.env.scope scope own)
    (hg : ∀ (s : Shared) (H : Hp) (C : Addr) (cl : List (Str × Addr)) (fp : List Addr), PG (X.blk s H scope (compEnvC scope cl C X.env) fp) tg (TGm g is t)) (ht : ∀ (s : Shared) (H : Hp) (C : Addr) (cl : List (Str × Addr)) (fp : List Addr), PTs (X.blk s H scope (compEnvC scope cl C X.env) fp) ifs (TB g W0 q))
    (he : ∀ (s : Shared) (H : Hp) (C : Addr) (cl : List (Str × Addr)) (fp : List Addr), PE (X.blk s H scope (compEnvC scope cl C X.env) fp) elt (T g W0 el)) (hv : ∀ i ∈ is, i ∈ own.map (·.2)) (hs : ∀ x, foldedSetIterable iter X.env x = pure x := by intro _; rfl) :
    PS X (.Assign [.Name y py] (.ListComp elt [⟨tg, iter, ifs, 0⟩] scope pos) spos) (TSm g W (sAsg (mLcF m t q el (own.map (·.2))) (gtN i))) :=
  PS.im (ps_setLc hc hN hy hyl hsw hi ok hg ht he hs) fun D σ H z => lc_readF hv (AtS.seqE (rel := Rl g) (k := fun u s h1 => .nx (s.set i (some u)) h1) z fun ρ1 u s h1 v H1 hs c1 r1 p =>
    p ρ1 _ H1 (Wd.refl _) c1 (Paired.set (F := Rol g ρ1) (x := some u) (y := some v) r1 i hs))
end
end Vm

set_option Elab.async false
set_option linter.all false
set_option maxRecDepth 100000
set_option maxHeartbeats 4100000
namespace Vm
open L2 PyProof.Rows PySem PySem.Spec

/-! ### a def whose arguments and answer are frozen: no mirror's heap -/
def pureU : U → Bool
  | .loc _ => false
  | .scr => false
  | .exn => false
  | .pr _ => false
  | _ => true
def pureF (fs : List (Str × U)) : Bool := fs.all fun p => pureU p.2
def pureO : O → Bool
  | .lst xs => xs.all pureU
  | .ins _ fs => pureF fs
  | _ => false
inductive P0 where
  | ok (u : U) | ex (c : Nat) (f : List (Str × U)) | stuck
def P0.at (p : P0) (h : Mh) : R U := match p with
  | .ok u => .ok u h
  | .ex c f => .ex c f h
  | .stuck => .stuck
/-- what is handed back, frozen -/
def outU (h : Mh) (u : U) : Option U := match u with
  | .loc k => match h[k]? with
    | some (.lst xs) => match pdsOf xs with
      | some ds => some (.dat (.list ds))
      | none => none
    | some (.ins c fs) => if pureF fs then some (.obj c fs) else none
    | _ => none
  | .scr => none
  | .exn => none
  | .pr _ => none
  | u => some u
def toP : RS → P0
  | .nx _ _ => .ok .non
  | .rt u h => match outU h u with
    | some u' => .ok u'
    | none => .stuck
  | .ex c f _ _ => if pureF f then .ex c f else .stuck
  | _ => .stuck
def slotsOf (N : Nat) (us : List U) : Sl := us.map some ++ List.replicate (N - us.length) none
def pfn (N : Nat) (m : Ms) : List U → P0 := fun us => if us.all pureU then toP (m (slotsOf N us) []) else .stuck
def runP (p : List U → P0) : List U → Mh → R U := fun us h => (p us).at h
section
variable {g : Gc} {ρ ρ' ρ2 : Wd} {h h' h1 : Mh} {H H' H2 : Hp}
theorem Rl.ro {u : U} {v : V} (r : Rl g ρ u v) (k : pureU u = true) : Ro g.K g.cl ρ.fz u v := by
  cases u with
  | non => cases r; exact .non
  | bl b => cases r; exact .bl b
  | int b => cases r; exact .int b
  | str b => cases r; exact .str b
  | dat d => exact .dat r.1 r.2
  | obj c fs => exact r
  | loc n => cases k
  | scr => cases k
  | exn => cases k
  | pr ds => cases k
theorem Ro.rl {u : U} {v : V} (r : Ro g.K g.cl ρ.fz u v) : Rl g ρ u v := by
  cases r with
  | non => rfl
  | bl b => rfl
  | int b => rfl
  | str b => rfl
  | dat k r => exact ⟨k, r⟩
  | obj e rf => exact .obj e rf
theorem Rl.pu {u : U} {v : V} (r : Rl g ρ u v) (k : pureU u = true) (e : Hle ρ.fz ρ'.fz) : Rl g ρ' u v := Ro.rl (Ro.hle e (r.ro k))
theorem Rls.pu : ∀ {us : List U} {vs : List V}, Rls g ρ us vs → us.all pureU = true → Hle ρ.fz ρ'.fz → Rls g ρ' us vs
  | _, _, .nil, _, _ => .nil
  | _, _, .cons q t, k, e => by
    rw [List.all_cons, Bool.and_eq_true] at k
    exact .cons (q.pu k.1 e) (Rls.pu t k.2 e)
theorem Rf.pu : ∀ {us : List (Str × U)} {vs : List (Str × V)}, Rf g ρ us vs → pureF us = true → Hle ρ.fz ρ'.fz → Rf g ρ' us vs
  | _, _, .nil, _, _ => .nil
  | _, _, .cons q t, k, e => by
    unfold pureF at k
    rw [List.all_cons, Bool.and_eq_true] at k
    exact .cons ⟨q.1, q.2.pu k.1 e⟩ (Rf.pu t k.2 e)
theorem Rf.rof : ∀ {us : List (Str × U)} {vs : List (Str × V)}, Rf g ρ us vs → pureF us = true → Rof g.K g.cl ρ.fz us vs
  | _, _, .nil, _ => .nil
  | (n, u) :: us, (n', v) :: vs, .cons q t, k => by
    unfold pureF at k
    rw [List.all_cons, Bool.and_eq_true] at k
    obtain ⟨q1, q2⟩ := q
    have q1 : n = n' := q1
    subst q1
    exact .cons (q2.ro k.1) (Rf.rof t k.2)
theorem Rof.rf : ∀ {us : List (Str × U)} {vs : List (Str × V)}, Rof g.K g.cl ρ.fz us vs → Rf g ρ us vs
  | _, _, .nil => .nil
  | _, _, .cons q t => .cons ⟨rfl, Ro.rl q⟩ (Rof.rf t)
/-- objects where the heap only grew -/
theorem Om.grow {a : Addr} {o : O} (e : Wd.Lx ρ ρ') (m : Om g ρ H a o) (k : Hle H H') : Om g ρ' H' a o := by
  cases o with
  | lst xs => obtain ⟨vs, r, q⟩ := m; exact ⟨vs, Rls.mx e r, k _ _ q⟩
  | tup xs => obtain ⟨vs, o, r, d, q⟩ := m; exact ⟨vs, o, Rls.mx e r, d, k _ _ q⟩
  | tpl xs => obtain ⟨vs, r, q⟩ := m; exact ⟨vs, Rls.mx e r, k _ _ q⟩
  | ins c fs => obtain ⟨dx, gs, r, q⟩ := m; exact ⟨dx, gs, Rf.mx e r, k _ _ q⟩
  | exc c fs =>
    rcases m with ⟨e0, q⟩ | ⟨dx, gs, r, q, q2⟩
    · exact .inl ⟨e0, k _ _ q⟩
    · exact .inr ⟨dx, gs, Rf.mx e r, k _ _ q, k _ _ q2⟩
  | ded => obtain ⟨u, q⟩ := m; exact ⟨u, k _ _ q⟩
/-- the callee's world: all that stands is locked -/
def Wd.call (r : Wd) (H : Hp) : Wd := ⟨[], r.fz, H⟩
theorem Cs.call (c : Cs g ρ h H) (hg : g.exn = none) : Cs g (ρ.call H) [] H :=
  ⟨rfl, fun n o b e => (by simp at e), List.nodup_nil, c.scr, fun a dd fs ex => (by rw [hg] at ex; cases ex), c.fzH, fun _ _ q => q, fun n o b e => (by simp at e), c.nfl⟩
/-- back from the callee, with F frozen now -/
theorem Cs.back {F : Hp} (c : Cs g ρ h H) (hg : g.exn = none) (le : Wd.Le (ρ.call H) ρ2) (c2 : Cs g ρ2 h1 H2) (f1 : Hle ρ2.fz F) (f2 : Hle F H2) (f3 : ∀ b, H b ≠ none → ρ2.fz b = none → F b = none) (f4 : ∀ a o xs, F a ≠ some (.frz o (.lst xs))) :
    Wd.Le ρ ⟨ρ.as, F, ρ.lk⟩ ∧ Cs g ⟨ρ.as, F, ρ.lk⟩ h H2 := by
  have hl : Hle H H2 := fun b o q => c2.lkH b o (by rw [le.lk]; exact q)
  have w : Wd.Le ρ ⟨ρ.as, F, ρ.lk⟩ := ⟨List.prefix_refl _, fun b o q => f1 b o (le.fz b o q), rfl, fun b q1 q2 => by
    have q3 : H b ≠ none := fun z => q2 (by
      cases e : ρ.lk b with
      | none => rfl
      | some o => rw [c.lkH b o e] at z; cases z)
    exact f3 b q3 (le.nw b q1 q3)⟩
  refine ⟨w, c.len, fun n o b e1 e2 => Om.grow w.lx (c.at_ n o b e1 e2) hl, c.inj, c2.scr, fun a dd fs ex => (by rw [hg] at ex; cases ex), f2, fun b o q => hl b o (c.lkH b o q), fun n o b e1 e2 => ?_, f4⟩
  obtain ⟨q1, q2⟩ := c.apt n o b e1 e2
  refine ⟨q1, fun hd => ?_⟩
  have q3 : H b ≠ none := fun z => by
    obtain ⟨u, e⟩ := (c.at_ n o b e1 e2).some
    rw [z] at e
    cases e
  exact f3 b q3 (le.nw b (q2 hd) q3)
theorem out_ok {u u' : U} {v : V} (c : Cs g ρ h H) (hg : g.exn = none) (le : Wd.Le (ρ.call H) ρ2) (c2 : Cs g ρ2 h1 H2) (r : Rl g ρ2 u v) (e : outU h1 u = some u') : ∃ F, Wd.Le ρ ⟨ρ.as, F, ρ.lk⟩ ∧ Cs g ⟨ρ.as, F, ρ.lk⟩ h H2 ∧ Rl g ⟨ρ.as, F, ρ.lk⟩ u' v := by
  have plain : pureU u = true → u' = u → ∃ F, Wd.Le ρ ⟨ρ.as, F, ρ.lk⟩ ∧ Cs g ⟨ρ.as, F, ρ.lk⟩ h H2 ∧ Rl g ⟨ρ.as, F, ρ.lk⟩ u' v := fun k z => by
    subst z
    obtain ⟨w, cc⟩ := c.back hg le c2 (F := ρ2.fz) (fun _ _ q => q) c2.fzH (fun _ _ q => q) c2.nfl
    exact ⟨ρ2.fz, w, cc, r.pu k fun _ _ q => q⟩
  have fresh : ∀ {k : Nat} {o : O} {a : Addr} {cell : HO}, h1[k]? = some o → ρ2.as[k]? = some a → o ≠ .ded → H2 a = some cell → (∀ o xs, cell ≠ .frz o (.lst xs)) →
      Wd.Le ρ ⟨ρ.as, upd ρ2.fz a cell, ρ.lk⟩ ∧ Cs g ⟨ρ.as, upd ρ2.fz a cell, ρ.lk⟩ h H2 ∧ Hle ρ2.fz (upd ρ2.fz a cell) := fun {k o a cell} ek ea hd hc hf => by
    obtain ⟨q1, q2⟩ := c2.apt k o a ek ea
    have hz := q2 hd
    rw [le.lk] at q1
    have q1 : H a = none := q1
    have f1 : Hle ρ2.fz (upd ρ2.fz a cell) := fun b u q => by
      rw [upd_ne (fun z => by rw [z, hz] at q; cases q)]
      exact q
    have z := c.back hg le c2 (F := upd ρ2.fz a cell) f1 (fun b u q => by
      by_cases z : b = a
      · subst z
        rw [upd_same] at q
        cases q
        exact hc
      · rw [upd_ne z] at q
        exact c2.fzH b u q) (fun b hb q => by
      rw [upd_ne (fun z => by rw [z] at hb; exact hb q1)]
      exact q) (fun b o xs q => by
      by_cases z : b = a
      · subst z
        rw [upd_same] at q
        exact hf _ _ (Option.some.inj q)
      · rw [upd_ne z] at q
        exact c2.nfl b o xs q)
    exact ⟨z.1, z.2, f1⟩
  unfold outU at e
  split at e
  · rename_i k
    obtain ⟨a, ea, rfl⟩ := r
    split at e
    · rename_i xs ek
      cases ep : pdsOf xs with
      | none => rw [ep] at e; cases e
      | some ds =>
        rw [ep] at e
        cases e
        obtain ⟨vs, rv, ha⟩ := c2.at_ _ _ a ek ea
        obtain ⟨w, cc, f1⟩ := fresh ek ea (fun z => nomatch z) ha (fun _ _ z => by cases z)
        exact ⟨_, w, cc, rfl, .lst upd_same (DqAll.hle f1 _ _ (pds_ok rv ep))⟩
    · rename_i c' fs ek
      cases ep : pureF fs with
      | false => rw [ep, if_neg Bool.false_ne_true] at e; cases e
      | true =>
        rw [ep, if_pos rfl] at e
        cases e
        obtain ⟨dx, gs, rf, ha⟩ := c2.at_ _ _ a ek ea
        obtain ⟨w, cc, f1⟩ := fresh ek ea (fun z => nomatch z) ha (fun _ _ z => by cases z)
        exact ⟨_, w, cc, .obj upd_same (Rof.hle f1 (rf.rof ep))⟩
    · cases e
  · cases e
  · cases e
  · cases e
  · rename_i n1 n2 n3 n4
    cases e
    refine plain ?_ rfl
    cases u with
    | loc k => exact (n1 k rfl).elim
    | scr => exact (n2 rfl).elim
    | exn => exact (n3 rfl).elim
    | pr ds => exact (n4 ds rfl).elim
    | _ => rfl
/-- the body from the frozen promise -/
theorem run_readP {N : List Str} {n : Nat} {m : Ms} {vs : List V} {Q : VK} {E : XK} (hg : g.exn = none) (q : spM g n (runP (pfn N.length m)) vs H Q E) : TSm g (fun cls d _ H => E cls d H) m { nx := fun _ H' => Q .non H', rt := Q } (L2.start N vs) H := by
  obtain ⟨_, ρ, us, h, r, cs, p⟩ := q
  unfold runP pfn at p
  cases ea : us.all pureU with
  | false => rw [ea, if_neg Bool.false_ne_true] at p; exact p.elim
  | true =>
  rw [ea, if_pos rfl] at p
  have r0 : Rls g (ρ.call H) us vs := r.pu ea fun _ _ q => q
  refine ⟨ρ.call H, slotsOf N.length us, [], ?_, cs.call hg, ?_⟩
  · unfold L2.start slotsOf
    refine Paired.app (Rls.somes r0) ?_
    rw [← Paired.length r]
    exact Paired.rep (F := Rol g (ρ.call H)) (x := none) (y := none) trivial _
  · cases em : m (slotsOf N.length us) [] with
    | nx s h1 =>
      rw [em] at p
      intro ρ2 σ H2 e2 c2 _
      obtain ⟨w, cc⟩ := cs.back hg e2 c2 (F := ρ2.fz) (fun _ _ q => q) c2.fzH (fun _ _ q => q) c2.nfl
      exact p _ .non H2 w cc rfl
    | rt u h1 =>
      rw [em] at p
      unfold toP at p
      simp only at p
      cases eo : outU h1 u with
      | none => rw [eo] at p; exact p.elim
      | some u' =>
        rw [eo] at p
        intro ρ2 v H2 e2 c2 r2
        obtain ⟨F, w, cc, rr⟩ := out_ok cs hg e2 c2 r2 eo
        exact p _ v H2 w cc rr
    | bk s h1 => rw [em] at p; exact p.elim
    | ct s h1 => rw [em] at p; exact p.elim
    | ex c f s h1 =>
      rw [em] at p
      unfold toP at p
      simp only at p
      cases ef : pureF f with
      | false => rw [ef, if_neg Bool.false_ne_true] at p; exact p.elim
      | true =>
        rw [ef, if_pos rfl] at p
        intro ρ2 σ H2 e2 c2 _
        obtain ⟨w, cc⟩ := cs.back hg e2 c2 (F := ρ2.fz) (fun _ _ q => q) c2.fzH (fun _ _ q => q) c2.nfl
        have pp := p _ H2 w cc
        exact ⟨pp.1, fun d gs f0 hd rf => pp.2 d gs f0 hd (rf.pu ef fun _ _ q => q)⟩
    | stuck => rw [em] at p; exact p.elim
end
theorem fn_okP {P : Program} {w : World} {K : PySem.W.Frag} {mg : Str → Option Value} {base : Heap} {g : Gc} (hg : g.exn = none) {x qual : Str} {st : Stmt} {f : Addr} {fd : FuncData} {N ps : List Str} {k : Nat} {m : Ms} (F : Fun K x qual st f fd) (S : FnScope N ps (defScope st))
    (body : ∀ (cdv : Value) (A : Around) (outer : List Env) (s : Shared) (H : Hp) (E : XK), Room k (A.deeper (envOfC qual (defScope st) s.heap.objs.size f cdv)) →
      (cxOf (L2.CX P w) P w K mg base N qual (defScope st) f cdv A outer s H E).A.units + 65 < cLine →
      PassesOwn (model P w) (cxOf (L2.CX P w) P w K mg base N qual (defScope st) f cdv A outer s H E).A (cxOf (L2.CX P w) P w K mg base N qual (defScope st) f cdv A outer s H E).env (cxOf (L2.CX P w) P w K mg base N qual (defScope st) f cdv A outer s H E).xe →
      Takes (cxOf (L2.CX P w) P w K mg base N qual (defScope st) f cdv A outer s H E) (fun cls d _ H => E cls d H) →
      PSs (cxOf (L2.CX P w) P w K mg base N qual (defScope st) f cdv A outer s H E) (defBody st) (TSm g (fun cls d _ H => E cls d H) m)) :
    FnOk P w K mg base (L2.CX P w) (k + 1) f fd ps (spM g ps.length (runP (pfn N.length m))) :=
  F.okX S spM_len fun cdv A outer s H vs Q E hr h => ⟨_, body cdv A outer s H E hr (by have := hr.un; show (A.deeper (envOfC qual (defScope st) s.heap.objs.size f cdv)).units + 65 < cLine; omega) (passes_of rfl) (takes_of rfl rfl rfl rfl), run_readP hg h⟩
end Vm

set_option Elab.async false
set_option linter.all false
set_option maxRecDepth 100000
set_option maxHeartbeats 4100000
namespace Vm
open L2 PyProof.Rows PySem PySem.Spec

/-! ### a def whose first argument is an object that it changes, all else frozen -/
inductive PM where
  | ok (u : U) (o : O) | ex (c : Nat) (f : List (Str × U)) (o : O) | stuck
def outM (h : Mh) (u : U) : Option U := match u with
  | .loc 0 => none
  | u => outU h u
def toM : RS → PM
  | .nx _ (o :: _) => if pureO o then .ok .non o else .stuck
  | .rt u (o :: t) => if pureO o then (match outM (o :: t) u with
    | some u' => .ok u' o
    | none => .stuck) else .stuck
  | .ex c f _ (o :: _) => if pureO o && pureF f then .ex c f o else .stuck
  | _ => .stuck
def pmf (N : Nat) (m : Ms) : O → List U → PM := fun o us => toM (m (slotsOf N (.loc 0 :: us)) [o])
def runM (p : O → List U → PM) : List U → Mh → R U := fun us h => match us with
  | .loc k :: rest => match h[k]? with
    | some o => if pureO o && rest.all pureU then (match p o rest with
      | .ok u o' => .ok u (h.set k o')
      | .ex c f o' => .ex c f (h.set k o')
      | .stuck => .stuck) else .stuck
    | none => .stuck
  | _ => .stuck
section
variable {g : Gc} {ρ ρ' ρ2 : Wd} {h h' h1 : Mh} {H H' H2 : Hp}
theorem Om.pu {a : Addr} {o : O} (m : Om g ρ H a o) (k : pureO o = true) (e : Hle ρ.fz ρ'.fz) : Om g ρ' H a o := by
  cases o with
  | lst xs => obtain ⟨vs, r, q⟩ := m; exact ⟨vs, Rls.pu r k e, q⟩
  | ins c fs => obtain ⟨dx, gs, r, q⟩ := m; exact ⟨dx, gs, Rf.pu r k e, q⟩
  | _ => cases k
def Wd.callM (r : Wd) (H : Hp) (a : Addr) : Wd := ⟨[a], r.fz, fun b => if b = a then none else H b⟩
theorem callM_ne {r : Wd} {a b : Addr} (h : b ≠ a) : (r.callM H a).lk b = H b := by
  show (if b = a then none else H b) = H b
  rw [if_neg h]
theorem callM_eq {r : Wd} {a : Addr} : (r.callM H a).lk a = none := by
  show (if a = a then none else H a) = none
  rw [if_pos rfl]
theorem Cs.callM {k : Nat} {o : O} {a : Addr} (c : Cs g ρ h H) (hg : g.exn = none) (ek : h[k]? = some o) (ea : ρ.as[k]? = some a) (po : pureO o = true) : Cs g (ρ.callM H a) [o] H :=
  ⟨rfl, fun n o' b e1 e2 => by
    cases n with
    | zero =>
      have e1 : some o = some o' := e1
      have e2 : some a = some b := e2
      cases e1
      cases e2
      exact (c.at_ k o a ek ea).pu po fun _ _ q => q
    | succ n => simp at e1, by
    show [a].Nodup
    simp, c.scr, fun a dd fs ex => (by rw [hg] at ex; cases ex), c.fzH, fun b u q => by
    by_cases z : b = a
    · subst z
      rw [callM_eq] at q
      cases q
    · rw [callM_ne z] at q
      exact q, fun n o' b e1 e2 => by
    cases n with
    | zero =>
      have e1 : some o = some o' := e1
      have e2 : some a = some b := e2
      cases e1
      cases e2
      exact ⟨callM_eq, (c.apt k o a ek ea).2⟩
    | succ n => simp at e1, c.nfl⟩
theorem ded_of {o : O} (k : pureO o = true) : o ≠ .ded := fun z => by
  subst z
  cases k
theorem Om.growA {a b : Addr} {o : O} (e : Wd.Lx ρ ρ') (m : Om g ρ H b o) (hb : b ≠ a) (k : ∀ b u, b ≠ a → H b = Option.some u → H' b = Option.some u) (hx : ∀ φ : Heap → Prop, H a ≠ Option.some (HO.ext φ)) : Om g ρ' H' b o := by
  cases o with
  | lst xs => obtain ⟨vs, r, q⟩ := m; exact ⟨vs, Rls.mx e r, k _ _ hb q⟩
  | tup xs => obtain ⟨vs, o, r, d, q⟩ := m; exact ⟨vs, o, Rls.mx e r, d, k _ _ hb q⟩
  | tpl xs => obtain ⟨vs, r, q⟩ := m; exact ⟨vs, Rls.mx e r, k _ _ hb q⟩
  | ins c fs => obtain ⟨dx, gs, r, q⟩ := m; exact ⟨dx, gs, Rf.mx e r, k _ _ hb q⟩
  | exc c fs =>
    rcases m with ⟨e0, q⟩ | ⟨dx, gs, r, q, q2⟩
    · exact .inl ⟨e0, k _ _ hb q⟩
    · exact .inr ⟨dx, gs, Rf.mx e r, k _ _ hb q, k _ _ (fun z => by rw [z] at q2; exact hx _ q2) q2⟩
  | ded => obtain ⟨u, q⟩ := m; exact ⟨u, k _ _ hb q⟩
theorem pure_nx {a : Addr} {o : O} (m : Om g ρ H a o) (po : pureO o = true) : ∀ φ : Heap → Prop, H a ≠ some (HO.ext φ) := fun φ z => by
  cases o with
  | lst xs => obtain ⟨vs, r, q⟩ := m; rw [q] at z; cases z
  | ins c fs => obtain ⟨dx, gs, r, q⟩ := m; rw [q] at z; cases z
  | _ => cases po
theorem Cs.backM {F : Hp} {k : Nat} {o o' : O} {t : Mh} {a : Addr} (c : Cs g ρ h H) (hg : g.exn = none) (ek : h[k]? = some o) (ea : ρ.as[k]? = some a) (po : pureO o = true) (po' : pureO o' = true) (le : Wd.Le (ρ.callM H a) ρ2) (c2 : Cs g ρ2 (o' :: t) H2)
    (f1 : Hle ρ2.fz F) (f2 : Hle F H2) (f3 : ∀ b, (H b ≠ none ∨ b = a) → ρ2.fz b = none → F b = none) (f4 : ∀ a o xs, F a ≠ some (.frz o (.lst xs))) : Wd.Le ρ ⟨ρ.as, F, ρ.lk⟩ ∧ Cs g ⟨ρ.as, F, ρ.lk⟩ (h.set k o') H2 := by
  have a0 : ρ2.as[0]? = some a := pre_get le (show (ρ.callM H a).as[0]? = some a from rfl)
  have lka := (c.apt k o a ek ea).1
  have hl : ∀ b u, b ≠ a → H b = some u → H2 b = some u := fun b u hb q => c2.lkH b u (by rw [le.lk, callM_ne hb]; exact q)
  have hlk : ∀ b, ρ.lk b ≠ none → b ≠ a ∧ H b ≠ none := fun b q => ⟨fun z => q (by rw [z]; exact lka), fun z => q (by
    cases e : ρ.lk b with
    | none => rfl
    | some o => rw [c.lkH b o e] at z; cases z)⟩
  have w : Wd.Le ρ ⟨ρ.as, F, ρ.lk⟩ := ⟨List.prefix_refl _, fun b o q => f1 b o (le.fz b o q), rfl, fun b q1 q2 => by
    obtain ⟨n1, n2⟩ := hlk b q2
    exact f3 b (.inl n2) (le.nw b q1 (by rw [callM_ne n1]; exact n2))⟩
  have m2 := c2.at_ 0 o' a rfl a0
  refine ⟨w, by rw [List.length_set]; exact c.len, fun n ob b e1 e2 => ?_, c.inj, c2.scr, fun a dd fs ex => (by rw [hg] at ex; cases ex), f2, fun b u q => ?_, fun n ob b e1 e2 => ?_, f4⟩
  · by_cases hn : k = n
    · subst hn
      have e2 : ρ.as[k]? = some b := e2
      rw [ea] at e2
      cases e2
      have hlen : k < (h.set k o').length := (List.getElem?_eq_some_iff.mp e1).1
      rw [List.length_set] at hlen
      rw [List.getElem?_set_self hlen] at e1
      cases e1
      exact m2.pu po' f1
    · rw [List.getElem?_set_ne hn] at e1
      have hb : b ≠ a
                      := fun z => by
        subst z
        obtain ⟨h1, q1⟩ := List.getElem?_eq_some_iff.mp ea
        obtain ⟨h2, q2⟩ := List.getElem?_eq_some_iff.mp (show ρ.as[n]? = some b from e2)
        exact hn ((List.getElem_inj c.inj).mp (q1.trans q2.symm))
      exact Om.growA w.lx (c.at_ n ob b e1 e2) hb hl (pure_nx (c.at_ k o a ek ea) po)
  · obtain ⟨n1, n2⟩ := hlk b (by rw [show ρ.lk b = some u from q]; exact fun z => nomatch z)
    exact hl b u n1 (c.lkH b u q)
  · by_cases hn : k = n
    · subst hn
      have e2 : ρ.as[k]? = some b := e2
      rw [ea] at e2
      cases e2
      exact ⟨lka, fun _ => f3 a (.inr rfl) ((c2.apt 0 o' a rfl a0).2 (ded_of po'))⟩
    · rw [List.getElem?_set_ne hn] at e1
      obtain ⟨q1, q2⟩ := c.apt n ob b e1 e2
      refine ⟨q1, fun hd => ?_⟩
      have hb : b ≠ a
                      := fun z => by
        subst z
        obtain ⟨h1, q1⟩ := List.getElem?_eq_some_iff.mp ea
        obtain ⟨h2, q2⟩ := List.getElem?_eq_some_iff.mp (show ρ.as[n]? = some b from e2)
        exact hn ((List.getElem_inj c.inj).mp (q1.trans q2.symm))
      have q3 : H b ≠ none := fun z => by
        obtain ⟨u, e⟩ := (c.at_ n ob b e1 e2).some
        rw [z] at e
        cases e
      exact f3 b (.inl q3) (le.nw b (q2 hd) (by rw [callM_ne hb]; exact q3))
theorem out_okM {k : Nat} {o o' : O} {t : Mh} {a : Addr} {u u' : U} {v : V} (c : Cs g ρ h H) (hg : g.exn = none) (ek : h[k]? = some o) (ea : ρ.as[k]? = some a) (po : pureO o = true) (po' : pureO o' = true) (le : Wd.Le (ρ.callM H a) ρ2) (c2 : Cs g ρ2 (o' :: t) H2) (r : Rl g ρ2 u v) (e : outM (o' :: t) u = some u') :
    ∃ F, Wd.Le ρ ⟨ρ.as, F, ρ.lk⟩ ∧ Cs g ⟨ρ.as, F, ρ.lk⟩ (h.set k o') H2 ∧ Rl g ⟨ρ.as, F, ρ.lk⟩ u' v := by
  have a0 : ρ2.as[0]? = some a := pre_get le (show (ρ.callM H a).as[0]? = some a from rfl)
  have plain : pureU u = true → u' = u → ∃ F, Wd.Le ρ ⟨ρ.as, F, ρ.lk⟩ ∧ Cs g ⟨ρ.as, F, ρ.lk⟩ (h.set k o') H2 ∧ Rl g ⟨ρ.as, F, ρ.lk⟩ u' v := fun kk z => by
    subst z
    obtain ⟨w, cc⟩ := c.backM hg ek ea po po' le c2 (F := ρ2.fz) (fun _ _ q => q) c2.fzH (fun _ _ q => q) c2.nfl
    exact ⟨ρ2.fz, w, cc, r.pu kk fun _ _ q => q⟩
  have fresh : ∀ {j : Nat} {ob : O} {b : Addr} {cell : HO}, j ≠ 0 → (o' :: t)[j]? = some ob → ρ2.as[j]? = some b → ob ≠ .ded → H2 b = some cell → (∀ o xs, cell ≠ .frz o (.lst xs)) →
      Wd.Le ρ ⟨ρ.as, upd ρ2.fz b cell, ρ.lk⟩ ∧ Cs g ⟨ρ.as, upd ρ2.fz b cell, ρ.lk⟩ (h.set k o') H2 ∧ Hle ρ2.fz (upd ρ2.fz b cell) := fun {j ob b cell} hj ek' eb hd hc hf => by
    obtain ⟨q1, q2⟩ := c2.apt j ob b ek' eb
    have hz := q2 hd
    have hb : b ≠ a
                    := fun z => by
      subst z
      obtain ⟨h1, q1⟩ := List.getElem?_eq_some_iff.mp a0
      obtain ⟨h2, q2⟩ := List.getElem?_eq_some_iff.mp eb
      exact hj ((List.getElem_inj c2.inj).mp (q2.trans q1.symm))
    rw [le.lk, callM_ne hb] at q1
    have f1 : Hle ρ2.fz (upd ρ2.fz b cell) := fun b' u q => by
      rw [upd_ne (fun z => by rw [z, hz] at q; cases q)]
      exact q
    have z := c.backM hg ek ea po po' le c2 (F := upd ρ2.fz b cell) f1 (fun b' u q => by
      by_cases z : b' = b
      · subst z
        rw [upd_same] at q
        cases q
        exact hc
      · rw [upd_ne z] at q
        exact c2.fzH b' u q) (fun b' hb' q => by
      rw [upd_ne (fun z => by
        rcases hb' with hb' | hb'
        · rw [z] at hb'; exact hb' q1
        · exact hb (z.symm.trans hb'))]
      exact q) (fun b' ob xs q => by
      by_cases z : b' = b
      · subst z
        rw [upd_same] at q
        exact hf _ _ (Option.some.inj q)
      · rw [upd_ne z] at q
        exact c2.nfl b' ob xs q)
    exact ⟨z.1, z.2, f1⟩
  have e0 : ∀ j, u = .loc j → j ≠ 0 := fun j z0 z => by
    subst z0 z
    cases e
  have e' : outU (o' :: t) u = some u' := by
    unfold outM at e
    split at e
    · cases e
    · exact e
  unfold outU at e'
  split at e'
  · rename_i j
    have hj := e0 j rfl
    obtain ⟨b, eb, rfl⟩ := r
    split at e'
    · rename_i xs ek'
      cases ep : pdsOf xs with
      | none => rw [ep] at e'; cases e'
      | some ds =>
        rw [ep] at e'
        cases e'
        obtain ⟨vs, rv, ha⟩ := c2.at_ _ _ b ek' eb
        obtain ⟨w, cc, f1⟩ := fresh hj ek' eb (fun z => nomatch z) ha (fun _ _ z => by cases z)
        exact ⟨_, w, cc, rfl, .lst upd_same (DqAll.hle f1 _ _ (pds_ok rv ep))⟩
    · rename_i c' fs ek'
      cases ep : pureF fs with
      | false => rw [ep, if_neg Bool.false_ne_true] at e'; cases e'
      | true =>
        rw [ep, if_pos rfl] at e'
        cases e'
        obtain ⟨dx, gs, rf, ha⟩ := c2.at_ _ _ b ek' eb
        obtain ⟨w, cc, f1⟩ := fresh hj ek' eb (fun z => nomatch z) ha (fun _ _ z => by cases z)
        exact ⟨_, w, cc, .obj upd_same (Rof.hle f1 (rf.rof ep))⟩
    · cases e'
  · cases e'
  · cases e'
  · cases e'
  · rename_i n1 n2 n3 n4
    cases e'
    refine plain ?_ rfl
    cases u with
    | loc k => exact (n1 k rfl).elim
    | scr => exact (n2 rfl).elim
    | exn => exact (n3 rfl).elim
    | pr ds => exact (n4 ds rfl).elim
    | _ => rfl
theorem run_readM {N : List Str} {n : Nat} {m : Ms} {vs : List V} {Q : VK} {E : XK} (hg : g.exn = none) (q : spM g n (runM (pmf N.length m)) vs H Q E) : TSm g (fun cls d _ H => E cls d H) m { nx := fun _ H' => Q .non H', rt := Q } (L2.start N vs) H := by
  obtain ⟨_, ρ, us, h, r, cs, p⟩ := q
  unfold runM at p
  split at p
  case h_2 => exact p.elim
  rename_i k rest
  split at p
  case h_2 => exact p.elim
  rename_i o ek
  cases epo : (pureO o && rest.all pureU) with
  | false => rw [epo, if_neg Bool.false_ne_true] at p; exact p.elim
  | true =>
  rw [epo, if_pos rfl] at p
  rw [Bool.and_eq_true] at epo
  obtain ⟨po, pr⟩ := epo
  cases r with
  | cons r1 r2 =>
  rename_i vs1 _
  obtain ⟨a, ea, rfl⟩ := r1
  have cc := cs.callM hg ek ea po
  have r0 : Rls g (ρ.callM H a) (.loc 0 :: rest) (.ref a :: vs1) := .cons ⟨a, rfl, rfl⟩ (Rls.pu r2 pr fun _ _ q => q)
  refine ⟨ρ.callM H a, slotsOf N.length (.loc 0 :: rest), [o], ?_, cc, ?_⟩
  · unfold L2.start slotsOf
    refine Paired.app (Rls.somes r0) ?_
    rw [← Paired.length r0]
    exact Paired.rep (F := Rol g (ρ.callM H a)) (x := none) (y := none) trivial _
  · unfold pmf at p
    cases em : m (slotsOf N.length (.loc 0 :: rest)) [o] with
    | nx s h1 =>
      rw [em] at p
      cases h1 with
      | nil => exact p.elim
      | cons o' t =>
        unfold toM at p
        simp only at p
        cases po' : pureO o' with
        | false => rw [po', if_neg Bool.false_ne_true] at p; exact p.elim
        | true =>
          rw [po', if_pos rfl] at p
          intro ρ2 σ H2 e2 c2 _
          obtain ⟨w, c3⟩ := cs.backM hg ek ea po po' e2 c2 (F := ρ2.fz) (fun _ _ q => q) c2.fzH (fun _ _ q => q) c2.nfl
          exact p _ .non H2 w c3 rfl
    | rt u h1 =>
      rw [em] at p
      cases h1 with
      | nil => exact p.elim
      | cons o' t =>
        unfold toM at p
        simp only at p
        cases po' : pureO o' with
        | false => rw [po', if_neg Bool.false_ne_true] at p; exact p.elim
        | true =>
          rw [po', if_pos rfl] at p
          cases eo : outM (o' :: t) u with
          | none => rw [eo] at p; exact p.elim
          | some u' =>
            rw [eo] at p
            intro ρ2 v H2 e2 c2 r2
            obtain ⟨F, w, c3, rr⟩ := out_okM cs hg ek ea po po' e2 c2 r2 eo
            exact p _ v H2 w c3 rr
    | bk s h1 => rw [em] at p; exact p.elim
    | ct s h1 => rw [em] at p; exact p.elim
    | ex c f s h1 =>
      rw [em] at p
      cases h1 with
      | nil => exact p.elim
      | cons o' t =>
        unfold toM at p
        simp only at p
        cases ef : (pureO o' && pureF f) with
        | false => rw [ef, if_neg Bool.false_ne_true] at p; exact p.elim
        | true =>
          rw [ef, if_pos rfl] at p
          rw [Bool.and_eq_true] at ef
          intro ρ2 σ H2 e2 c2 _
          obtain ⟨w, c3⟩ := cs.backM hg ek ea po ef.1 e2 c2 (F := ρ2.fz) (fun _ _ q => q) c2.fzH (fun _ _ q => q) c2.nfl
          have pp := p _ H2 w c3
          exact ⟨pp.1, fun d gs f0 hd rf => pp.2 d gs f0 hd (rf.pu ef.2 fun _ _ q => q)⟩
    | stuck => rw [em] at p; exact p.elim
end
theorem fn_okM {P : Program} {w : World} {K : PySem.W.Frag} {mg : Str → Option Value} {base : Heap} {g : Gc} (hg : g.exn = none) {x qual : Str} {st : Stmt} {f : Addr} {fd : FuncData} {N ps : List Str} {k : Nat} {m : Ms} (F : Fun K x qual st f fd) (S : FnScope N ps (defScope st))
    (body : ∀ (cdv : Value) (A : Around) (outer : List Env) (s : Shared) (H : Hp) (E : XK), Room k (A.deeper (envOfC qual (defScope st) s.heap.objs.size f cdv)) →
      (cxOf (L2.CX P w) P w K mg base N qual (defScope st) f cdv A outer s H E).A.units + 65 < cLine →
      PassesOwn (model P w) (cxOf (L2.CX P w) P w K mg base N qual (defScope st) f cdv A outer s H E).A (cxOf (L2.CX P w) P w K mg base N qual (defScope st) f cdv A outer s H E).env (cxOf (L2.CX P w) P w K mg base N qual (defScope st) f cdv A outer s H E).xe →
      Takes (cxOf (L2.CX P w) P w K mg base N qual (defScope st) f cdv A outer s H E) (fun cls d _ H => E cls d H) →
      PSs (cxOf (L2.CX P w) P w K mg base N qual (defScope st) f cdv A outer s H E) (defBody st) (TSm g (fun cls d _ H => E cls d H) m)) :
    FnOk P w K mg base (L2.CX P w) (k + 1) f fd ps (spM g ps.length (runM (pmf N.length m))) :=
  F.okX S spM_len fun cdv A outer s H vs Q E hr h => ⟨_, body cdv A outer s H E hr (by have := hr.un; show (A.deeper (envOfC qual (defScope st) s.heap.objs.size f cdv)).units + 65 < cLine; omega) (passes_of rfl) (takes_of rfl rfl rfl rfl), run_readM hg h⟩
end Vm

set_option Elab.async false
set_option linter.all false
set_option maxRecDepth 100000
set_option maxHeartbeats 4100000
namespace Vm
open L2 PyProof.Rows PySem PySem.Spec

/-! ### instances, frozen or of the mirror's heap -/
def insD (c : Nat) (u : U) (h : Mh) : Option (List (Str × U)) := match u with
  | .loc n => match h[n]? with
    | some (.ins k fs) => if k = c then some fs else none
    | _ => none
  | .obj k fs => if k = c then some fs else none
  | _ => none
def mFldD (c : Nat) (f : Str) (a : Me) : Me := fun s h => (a s h).bind fun u h1 => match insD c u h1 with
  | some fs => match fs.lookup f with
    | some w => .ok w h1
    | none => .stuck
  | none => .stuck
def mMethD (c : Nat) (m : Str) (d : List U → Mh → R U) (o : Me) (a : Ml) : Me := fun s h => (o s h).bind fun u h1 => match insD c u h1 with
  | some fs => match fs.lookup m with
    | none => (a s h1).bind fun us h2 => d (u :: us) h2
    | some _ => .stuck
  | none => .stuck
def mPropD (c : Nat) (d : List U → Mh → R U) (o : Me) : Me := fun s h => (o s h).bind fun u h1 => match insD c u h1 with
  | some _ => nox (d [u] h1)
  | none => .stuck
/-- C(..), frozen: p is the mirror of __init__ -/
def mMakeD (c : Nat) (p : O → List U → PM) (a : Ml) : Me := fun s h => (a s h).bind fun us h1 => if us.all pureU then (match p (.ins c []) us with
  | .ok .non o => match outU [o] (.loc 0) with
    | some u => .ok u h1
    | none => .stuck
  | .ex cc f _ => if pureF f then .ex cc f h1 else .stuck
  | _ => .stuck) else .stuck
section
variable {X : Cx} {g : Gc} {W : WX} {A O' V' : Me} {L : Ml} {e o v : Expr} {es : List Expr} {f m x : Str} {pos p apos : Pos} {c : Nat}
theorem insD_ok {ρ : Wd} {h : Mh} {H : Hp} {u : U} {vv : V} {fs : List (Str × U)} (cs : Cs g ρ h H) (r : Rl g ρ u vv) (e : insD c u h = some fs) : ∃ a dx gs, vv = .ref a ∧ Rf g ρ fs gs ∧ H a = some (.ins (g.cl c) dx gs) := by
  unfold insD at e
  split at e
  · rename_i n
    split at e
    · rename_i k fs' en
      by_cases hk : k = c
      · rw [if_pos hk] at e
        cases e
        subst hk
        obtain ⟨a, ea, rfl⟩ := r
        obtain ⟨dx, gs, rf, q⟩ := cs.at_ _ _ a en ea
        exact ⟨a, dx, gs, rfl, rf, q⟩
      · rw [if_neg hk] at e
        cases e
    · cases e
  · rename_i k fs'
    by_cases hk : k = c
    · rw [if_pos hk] at e
      cases e
      subst hk
      cases r with
      | obj q rf => exact ⟨_, _, _, rfl, rf.rf, cs.fzH _ _ q⟩
    · rw [if_neg hk] at e
      cases e
  · cases e
theorem e_fldD (T : Cls X.K (g.cl c)) (nf : NoAttr X.K (g.cl c) f) (he : PE X e (Vm.T g W A)) (hb : attributeBase e f X.env (eval e X.env) = eval e X.env := by rfl) : PE X (.Attribute e f pos) (Vm.T g W (mFldD c f A)) := by
  refine PE.im (pe_fld he hb) fun σ H Q q => At.seq (rel := Rl g) q fun ρ1 u s h1 vv H1 hs1 c1 r1 p1 => ?_
  cases ei : insD c u h1 with
  | none => rw [ei] at p1; exact p1.elim
  | some fs =>
    rw [ei] at p1
    simp only at p1
    obtain ⟨a, dx, gs, rfl, rf, q⟩ := insD_ok c1 r1 ei
    cases el : fs.lookup f with
    | none => rw [el] at p1; exact p1.elim
    | some w =>
      rw [el] at p1
      obtain ⟨y, ey, ry⟩ := Rf.look rf el
      exact ⟨a, g.cl c, dx, gs, y, rfl, q, T, nf, ey, Post.here (rel := Rl g) p1 c1 ry⟩
theorem meth_readD {n : Nat} {d : List U → Mh → R U} {σ : L2.St} {H : Hp} {Q : VK} (hl : ∀ s h xs h', L s h = .ok xs h' → xs.length + 1 = n) (q : At g (Rl g) (mMethD c m d A L) (WE W σ) σ H Q) : tMethS (g.cl c) m (spM g n d) (WE W) (Vm.T g W A) (TL g W L) σ H Q := by
  refine At.seq (rel := Rl g) q fun ρ1 u s h1 vv H1 hs1 c1 r1 p1 => ?_
  cases ei : insD c u h1 with
  | none => rw [ei] at p1; exact p1.elim
  | some fs =>
    rw [ei] at p1
    simp only at p1
    obtain ⟨a, dx, gs, rfl, rf, qa⟩ := insD_ok c1 r1 ei
    cases el : fs.lookup m with
    | some w => rw [el] at p1; exact p1.elim
    | none =>
      rw [el] at p1
      refine ⟨a, dx, gs, rfl, qa, Rf.look0 rf el, ρ1, s, h1, hs1, c1, ?_⟩
      cases eL : L s h1 with
      | ok us h2 =>
        rw [eL] at p1
        intro ρ2 vs H2 e2 c2 r2
        exact ⟨by rw [List.length_cons, ← Paired.length r2]; exact hl _ _ _ _ eL, ρ2, u :: us, h2, .cons (Rl.mono e2 r1) r2, c2, Post.mono e2 p1⟩
      | ex cc ff h2 => rw [eL] at p1; exact p1
      | stuck => rw [eL] at p1; exact p1.elim
theorem e_methD {k : Nat} {fm : Addr} {fd : FuncData} {ps : List Str} {n : Nat} {d : List U → Mh → R U} (T : Cls X.K (g.cl c)) (hm : Meth X.K (g.cl c) m fm) (F : FnOk X.prog X.w X.K X.mg X.base (L2.CX X.prog X.w) k fm fd ps (spM g n d)) (hr : Room k X.A) (hb : Binds X.K fd ps []) (tk : Takes X W) (he : PE X o (Vm.T g W A)) (ha : PA X (e :: es) (TL g W L))
    (hl : ∀ s h xs h', L s h = .ok xs h' → xs.length + 1 = n) {pl : Sem Bool} (hst : starEach (e :: es) X.env = (false, eval e X.env) :: starEach es X.env := by rfl) (hpl : (backTo pos (starEach es X.env)).any (·.1) = false := by rfl) (ht : eval (.Call (.Attribute o m apos) (e :: es) [] pos) X.env = (do
      let ov ← eval o X.env
      standAt apos.atName
      let (f, first) ← holding [ov] (getMethod ov m pl); callWith pos f first (backTo pos (starEach (e :: es) X.env)) (backToKw pos (keywordEach [] X.env))) := by rfl) :
    PE X (.Call (.Attribute o m apos) (e :: es) [] pos) (Vm.T g W (mMethD c m d A L)) :=
  PE.im (pe_methT he T hm F hr hb (fun σ => passAt tk σ) ha hst hpl ht) fun σ H Q q => meth_readD hl q
theorem e_methD0 {k : Nat} {fm : Addr} {fd : FuncData} {ps : List Str} {n : Nat} {d : List U → Mh → R U} (T : Cls X.K (g.cl c)) (hm : Meth X.K (g.cl c) m fm) (F : FnOk X.prog X.w X.K X.mg X.base (L2.CX X.prog X.w) k fm fd ps (spM g n d)) (hr : Room k X.A) (hb : Binds X.K fd ps []) (tk : Takes X W) (he : PE X o (Vm.T g W A))
    (hl : 1 = n) {pl : Sem Bool} (ht : eval (.Call (.Attribute o m apos) [] [] pos) X.env = (do
      let ov ← eval o X.env
      standAt apos.atName
      let (f, first) ← holding [ov] (getMethod ov m pl); callWith pos f first (backTo pos (starEach [] X.env)) (backToKw pos (keywordEach [] X.env))) := by rfl) :
    PE X (.Call (.Attribute o m apos) [] [] pos) (Vm.T g W (mMethD c m d A lN)) := by
  refine PE.im (pe_methT0 he T hm F hr hb (fun σ => passAt tk σ) ht) fun σ H Q q => ?_
  refine At.seq (rel := Rl g) q fun ρ1 u s h1 vv H1 hs1 c1 r1 p1 => ?_
  cases ei : insD c u h1 with
  | none => rw [ei] at p1; exact p1.elim
  | some fs =>
    rw [ei] at p1
    simp only at p1
    obtain ⟨a, dx, gs, rfl, rf, qa⟩ := insD_ok c1 r1 ei
    cases el : fs.lookup m with
    | some w => rw [el] at p1; exact p1.elim
    | none =>
      rw [el] at p1
      exact ⟨a, dx, gs, rfl, qa, Rf.look0 rf el, hl, ρ1, [u], h1, .cons r1 .nil, c1, p1⟩
theorem e_propD {k : Nat} {pa fm : Addr} {fd : FuncData} {ps : List Str} {n : Nat} {d : List U → Mh → R U} (T : Cls X.K (g.cl c)) (hp : PropOf X.K (g.cl c) f pa fm) (F : FnOk X.prog X.w X.K X.mg X.base (L2.CX X.prog X.w) k fm fd ps (spM g n d)) (hr : Room (k + 1) X.A) (hb : Binds X.K fd ps []) (hn : 1 = n) (he : PE X e (Vm.T g W A)) (hab : attributeBase e f X.env (eval e X.env) = eval e X.env := by rfl) :
    PE X (.Attribute e f pos) (Vm.T g W (mPropD c d A)) := by
  refine PE.im (pe_prop (X := X) (E := E0) (dvs := []) (ds := []) he T hp F hr hb .nil (fun pins σ H s er s' I h => passL (X := X.nox) pins σ H s er s' I h) hab) fun σ H Q q => At.seq (rel := Rl g) q fun ρ1 u s h1 vv H1 hs1 c1 r1 p1 => ?_
  cases ei : insD c u h1 with
  | none => rw [ei] at p1; exact p1.elim
  | some fs =>
    rw [ei] at p1
    simp only at p1
    obtain ⟨a, dx, gs, rfl, rf, qa⟩ := insD_ok c1 r1 ei
    refine ⟨a, dx, gs, rfl, qa, hn, ρ1, [u], h1, .cons r1 .nil, c1, ?_⟩
    cases ed : d [u] h1 with
    | ok w h2 => rw [ed] at p1; exact p1
    | ex cc ff h2 => rw [ed] at p1; exact p1.elim
    | stuck => rw [ed] at p1; exact p1.elim
theorem e_makeD {k : Nat} {fI : Addr} {fd : FuncData} {ps : List Str} {n : Nat} {pi : O → List U → PM} (hgx : g.exn = none) (M : Mk X.K (g.cl c) fI) (F : FnOk X.prog X.w X.K X.mg X.base (L2.CX X.prog X.w) k fI fd ps (spM g n (runM pi))) (hr : Room (k + 1) X.A) (hg : Gl X x) (hm : X.mg x = some (.ref (g.cl c))) (hb : Binds X.K fd ps []) (tk : Takes X W)
    (ha : PA X (e :: es) (TL g W L)) (hl : ∀ s h xs h', L s h = .ok xs h' → xs.length + 1 = n) (hdb : (x == ("__debug__" : Str)) = false := by decide) (he : starEach (e :: es) X.env = (false, eval e X.env) :: starEach es X.env := by rfl) (hpl : (backTo pos (starEach es X.env)).any (·.1) = false := by rfl) :
    PE X (.Call (.Name x p) (e :: es) [] pos) (Vm.T g W (mMakeD c pi L)) := by
  refine PE.im (pe_makeT M F hr hg hm hb (fun σ => passAt tk σ) ha hdb he hpl) fun σ H Q q => ?_
  obtain ⟨ρ, s, h, hs, cs, p⟩ := q
  refine ⟨ρ, s, h, hs, cs, ?_⟩
  unfold mMakeD at p
  cases eL : L s h with
  | ex cc ff h1 => rw [eL] at p; exact p
  | stuck => rw [eL] at p; exact p.elim
  | ok us h1 =>
  rw [eL] at p
  simp only [R.bind] at p
  intro ρ1 vs H1 e1 c1 r1 x dx hx hdx hne
  cases epu : us.all pureU with
  | false => rw [epu, if_neg Bool.false_ne_true] at p; exact p.elim
  | true =>
  rw [epu, if_pos rfl] at p
  have c2 : Cs g ρ1 h1 (upd H1 dx (.own x)) := c1.skip hdx
  have hx2 : upd H1 dx (.own x) x = none := by rw [upd_ne hne.symm]; exact hx
  have c3 : Cs g (ρ1.snoc x) (h1 ++ [.ins c []]) (upd (upd H1 dx (.own x)) x (.ins (g.cl c) dx [])) := c2.new hx2 ⟨dx, [], .nil, upd_same⟩
  have ex : (ρ1.snoc x).as[h1.length]? = some x := new_get ρ1 x c1.len
  have en : (h1 ++ [O.ins c []])[h1.length]? = some (.ins c []) := by simp
  have c4 := c3.callM hgx en ex rfl
  have lkeq : ((ρ1.snoc x).callM (upd (upd H1 dx (.own x)) x (.ins (g.cl c) dx [])) x).lk = upd H1 dx (.own x) := by
    funext b
    by_cases z : b = x
    · subst z
      rw [callM_eq, hx2]
    · rw [callM_ne z, upd_ne z]
  have back : ∀ {ρ4 : Wd}, Wd.Le ((ρ1.snoc x).callM (upd (upd H1 dx (.own x)) x (.ins (g.cl c) dx [])) x) ρ4 → Wd.Le (ρ1.call (upd H1 dx (.own x))) ρ4 := fun {ρ4} le =>
    ⟨List.nil_prefix, le.fz, le.lk.trans lkeq, fun b q1 q2 => le.nw b q1 (by rw [lkeq]; exact q2)⟩
  refine ⟨by rw [List.length_cons, ← Paired.length r1]; exact hl _ _ _ _ eL, (ρ1.snoc x).callM (upd (upd H1 dx (.own x)) x (.ins (g.cl c) dx [])) x, .loc 0 :: us, [.ins c []], .cons ⟨x, rfl, rfl⟩ (Rls.pu r1 epu fun _ _ q => q), c4, ?_⟩
  unfold runM
  simp only
            [List.getElem?_cons_zero]
  rw [if_pos (show (pureO (.ins c []) && us.all pureU) = true by rw [epu]; rfl)]
  cases ep : pi (.ins c []) us with
  | ok u o =>
    rw [ep] at p
    cases u with
    | non =>
      simp only at p
      cases eo : outU [o] (.loc 0) with
      | none => rw [eo] at p; exact p.elim
      | some u' =>
        rw [eo] at p
        intro ρ4 v4 H4 e4 c4' r4
        refine ⟨r4, ?_⟩
        have c4' : Cs g ρ4 [o] H4 := c4'
        have a0 : ρ4.as[0]? = some x := pre_get e4 rfl
        obtain ⟨F, w, cc, rr⟩ := out_ok c2 hgx (back e4) c4' (show Rl g ρ4 (.loc 0) (.ref x) from ⟨x, a0, rfl⟩) eo
        exact p _ (.ref x) H4 (e1.trans w) cc rr
    | _ => exact p.elim
  | ex cc ff o =>
    rw [ep] at p
    simp only at p
    cases ef : pureF ff with
    | false => rw [ef, if_neg Bool.false_ne_true] at p; exact p.elim
    | true =>
      rw [ef, if_pos rfl] at p
      intro ρ4 H4 e4 c4'
      have c4' : Cs g ρ4 [o] H4 := c4'
      obtain ⟨w, cc'⟩ := c2.back hgx (back e4) c4' (F := ρ4.fz) (fun _ _ q => q) c4'.fzH (fun _ _ q => q) c4'.nfl
      have pp := p _ H4 (e1.trans w) cc'
      exact ⟨pp.1, fun d gs f0 hd rf => pp.2 d gs f0 hd (rf.pu ef fun _ _ q => q)⟩
  | stuck => rw [ep] at p; exact p.elim
end
end Vm

set_option Elab.async false
set_option linter.all false
set_option maxRecDepth 100000
set_option maxHeartbeats 4100000
namespace Vm
open L2 PyProof.Rows PySem PySem.Spec

/-! ### a, b, .. = a tuple, a list -/
def gSqK (K : PySem.W.Frag) (n : Nat) (t : TGs) : TG := fun v σ H Q => ∃ k a xs, v = .ref a ∧ SqK k K H a xs ∧ xs.length = n ∧ t xs σ H Q
theorem pg_sqK {X : Cx} {pos : Pos} {es : List Expr} {k : Nat} {t : TGs} {n : Nat} (hc : X.calm = true) (h : PGs X es t)
    (hn : (assignEach es X.env).length = n := by rfl) (hst : (assignEach es X.env).findIdx? (·.1) = none := by rfl) : PG X (.Tuple es k pos) (gSqK X.K n t) := by
  refine ⟨fun pins s σ
                       H v u Q I r hw => ?_⟩
  obtain ⟨kk, a, xs, e1, hq, hl, hw⟩ := hw
  cases kk with
  | true => exact (pg_unl hc h hn hst).run pins s σ H v u Q I r ⟨a, xs, e1, hq, hl, hw⟩
  | false => exact (pg_tup hc h hn hst).run pins s σ H v u Q I r ⟨a, xs, e1, hq, hl, hw⟩
/-- what can be unpacked -/
def seqP (u : U) (h : Mh) : Option (List U) := match u with
  | .pr ds => some (ds.map ofPd)
  | u => match seqOf u h with
    | some (_, xs) => some xs
    | none => none
theorem seqP_ok {g : Gc} {ρ : Wd} {h : Mh} {H : Hp} (cs : Cs g ρ h H) {u : U} {v : V} {xs : List U} (r : Rl g ρ u v) (e : seqP u h = some xs) : ∃ k a vs, v = .ref a ∧ SqK k g.K H a vs ∧ Rls g ρ xs vs := by
  unfold seqP at e
  split at e
  · rename_i ds
    cases e
    obtain ⟨ad, vs, rfl, hf, ha⟩ := r
    exact ⟨false, ad, vs, rfl, SqT.of (cs.fzH _ _ hf), ofs_ok ha⟩
  · split at e
    · rename_i kk xs es
      cases e
      obtain ⟨ad, vs, rfl, rv, h1, h2⟩ := seq_ok cs r es
      cases kk with
      | true => exact ⟨true, ad, vs, rfl, SqL.of (h1 rfl), rv⟩
      | false => exact ⟨false, ad, vs, rfl, h2 rfl, rv⟩
    · cases e
def gtD (n : Nat) (b : Gts) : Gt := fun u s h => match seqP u h with
  | some xs => if xs.length = n then b xs s h else none
  | none => none
section
variable {X : Cx} {g : Gc} {W : WX} {A B Cc : Me} {a b c e : Expr} {pos : Pos} {L : Ml}
theorem g_tupD {es : List Expr} {k n : Nat} {is : List Nat} {ts : Gts} (hK : X.K = g.K := by assumption) (hc : X.calm = true) (h : PGs X es (TGsm g is ts))
    (hn : (assignEach es X.env).length = n := by rfl) (hst : (assignEach es X.env).findIdx? (·.1) = none := by rfl) : PG X (.Tuple es k pos) (TGm g is (gtD n ts)) := by
  refine PG.im (pg_sqK hc h hn hst) fun v σ H Q ⟨ρ, u, s, hh, r, hs, cs, p⟩ => ?_
  rw [hK]
  unfold gtD at p
  cases es : seqP u hh with
  | none => rw [es] at p; exact p.elim
  | some xs =>
    rw [es] at p
    simp only at p
    obtain ⟨kk, ad, vs, rfl, hq, rv⟩ := seqP_ok cs r es
    by_cases hl : xs.length = n
    · rw [if_pos hl] at p
      exact ⟨kk, ad, vs, rfl, hq, by rw [← Paired.length rv]; exact hl, ρ, xs, s, hh, rv, hs, cs, p⟩
    · rw [if_neg hl] at p
      exact p.elim
/-- a, b, c = x, y, z -/
def sPar3 (i j l : Nat) (L : Ml) : Ms := fun s h => (L s h).bindS s fun us h1 => match us with
  | [u, w, z] => .nx (((s.set i (some u)).set j (some w)).set l (some z)) h1
  | _ => .stuck
theorem three_of {ρ : Wd} {x y z : U} {vs : List V} (r : Rls g ρ [x, y, z] vs) : ∃ v w t, vs = [v, w, t] ∧ Rl g ρ x v ∧ Rl g ρ y w ∧ Rl g ρ z t := by
  cases r with
  | cons r1 r2 =>
    obtain ⟨w, t, rfl, r3, r4⟩ := two_of r2
    exact ⟨_, w, t, rfl, r1, r3, r4⟩
theorem s_par3 {i j l : Nat} {x y z : Str} {px py pz pt : Pos} {kt k2 pt2} (hc : X.calm = true) (hN : X.N.Nodup) (ha : PA X [a, b, c] (TL g W L)) (hi : X.N[i]? = some x := by rfl) (hj : X.N[j]? = some y := by rfl) (hl : X.N[l]? = some z := by rfl) (hij : i ≠ j := by decide) (hil : i ≠ l := by decide) (hjl : j ≠ l := by decide)
    (hx : X.env.scope.names.lookup x = some .local := by rfl) (hy : X.env.scope.names.lookup y = some .local := by rfl) (hz : X.env.scope.names.lookup z = some .local := by rfl)
    (hw : swappedStores [.Tuple [.Name x px, .Name y py, .Name z pz] kt pt] (.Tuple [a, b, c] k2 pt2) X.env = pure (some [x, y, z]) := by rfl) (hs : swapsWithSole [.Tuple [.Name x px, .Name y py, .Name z pz] kt pt] (.Tuple [a, b, c] k2 pt2) pos.line X.env = pure false := by rfl) :
    PS X (.Assign [.Tuple [.Name x px, .Name y py, .Name z pz] kt pt] (.Tuple [a, b, c] k2 pt2) pos) (TSm g W (sPar3 i j l L)) := by
  refine PS.im (ps_par3 hc hN hi hj hl hij hil hjl hx hy hz ha hw hs) fun D σ H q => AtS.seqE (rel := Rls g) (k := fun us s h1 => match us with | [u, w, z] => .nx (((s.set i (some u)).set j (some w)).set l (some z)) h1 | _ => .stuck) q fun ρ1 us s h1 vs H1 hs c1 r1 p => ?_
  split at p
  · rename_i u w z
    obtain ⟨v, v2, v3, rfl, q1, q2, q3⟩ := three_of r1
    exact ⟨v, v2, v3, rfl, p ρ1 _ H1 (Wd.refl _) c1 (Paired.set (F := Rol g ρ1) (x := some z) (y := some v3) q3 l (Paired.set (F := Rol g ρ1) (x := some w) (y := some v2) q2 j (Paired.set (F := Rol g ρ1) (x := some u) (y := some v) q1 i hs)))⟩
  · exact p.elim
end

/-! ### a method of a list or a tuple -/
def ExT (K : PySem.W.Frag) (H : Hp) (a : Addr) : Prop := ∃ xs, DT K H a xs
def tBMK (K : PySem.W.Frag) (r1 r2 : V → List V → Hp → VK → Prop) (to : TE) (t : TA) : TE := fun σ H Q => to σ H fun x H1 => ∃ a, x = .ref a ∧ (((∃ xs, SqL K H1 a xs) ∧ t σ H1 fun vs H2 => r1 x vs H2 Q) ∨ (ExT K H1 a ∧ t σ H1 fun vs H2 => r2 x vs H2 Q))
section
variable {X : Cx} {o e : Expr} {es : List Expr} {to : TE} {t : TA} {name : Str} {apos cpos : Pos} {id1 id2 : String} {r1 r2 : V → List V → Hp → VK → Prop}
theorem exT_is {pins : List (Addr × Obj)} {σ : L2.St} {H : Hp} {s : Shared} {a : Addr} (I : Inv X pins σ H s) (z : ExT X.K H a) : s.TypeIs (.ref a) "tuple" ∧ ∀ b, Value.ref a = .ref b → ∃ ob, s.heap.get? b = some ob ∧ ob.dict = none := by
  obtain ⟨xs, z⟩ := z
  rcases z with ⟨o, h, hd⟩ | ⟨o, its, n, h1, h2, hd, h3, _⟩
  · obtain ⟨⟨o', e1, e2, n, e3⟩, e4⟩ : (∃ o', s.heap.get? a = some o' ∧ o'.cls = .type "tuple" ∧ ∃ n, True) ∧ s.heap.get? a = some o := by
      obtain ⟨q1, q2, us, q3, o', q4, q5, _⟩ := I.hok a _ h
      exact ⟨⟨o', q4, q5, 0, trivial⟩, q1⟩
    refine ⟨⟨o', e1, e2⟩, fun b z => ?_⟩
    cases z
    exact ⟨o, e4, hd⟩
  · refine ⟨⟨o, I.kIn a o h1, h2⟩, fun b z => ?_⟩
    cases z
    exact ⟨o, I.kIn _ o h1, hd⟩
theorem pe_bmK (sl1 : Slot "list" name id1) (ty1 : typeOf (.builtin id1) = pure (.type "method_descriptor")) (hm1 : MtR X id1 r1) (sl2 : Slot "tuple" name id2) (ty2 : typeOf (.builtin id2) = pure (.type "method_descriptor")) (hm2 : MtR X id2 r2) (ho : PE X o to) (ha : PA X (e :: es) t)
    (hbase : attributeBase o name X.env
                                        (eval o X.env) = eval o X.env := by rfl)
    (hfew : ((backTo cpos (starEach (e :: es) X.env)).all (fun x => !x.1)
                                                                          && (backToKw cpos (keywordEach [] X.env)).all (fun x => x.1.isSome)
      && decide ((e :: es).length + ([] : List Keyword).length + (if ([]
                                                                         : List Keyword).isEmpty then 0 else 1) < 30)) = true := by rfl)
    (hline : (apos.endLine == cpos.line) = true := by rfl) (hs : starEach (e :: es) X.env = (false, eval e X.env)
                                                                                                                  :: starEach es X.env := by rfl) (hplain : (backTo cpos (starEach es X.env)).any (·.1) = false := by rfl) :
    PE X (.Call (.Attribute o name apos) (e :: es) [] cpos) (tBMK X.K r1 r2 to t) := by
  refine ⟨fun pins
                   s σ H Q I h => ?_⟩
  refine wpAny_Call_method_late hbase hfew hline rfl (thn (ho.run pins s σ H _ I h) fun v s1 ⟨x, H1, I1, rx, a, ex, q⟩ => ?_)
  subst ex
  rcases q with ⟨⟨xs, hq⟩, q1⟩ | ⟨hq, q1⟩
  · obtain ⟨h1, h2⟩ := tyV_is (T := "list") I1 rx (.inl ⟨rfl, xs, hq⟩)
    refine ⟨"list", id1, PySem.F.plainAttrs_list, sl1, ty1, h1, h2, ?_⟩
    have hA := ha.run cpos
                           pins s1 σ H1 _ I1 q1
    rw [hs] at hA ⊢
    refine Calls.callWith_builtin (by show (false || (backTo cpos (starEach es
                                                                               X.env)).any (·.1)) = false; rw [hplain] <;> rfl) (Calls.evalArgs_plain ?_)
    exact thn hA fun us s2 ⟨vs, H2, I2, r2', q2⟩ => hm1 pins s2 σ H2 (.ref a) vs v us Q I2 rx r2' q2
  · obtain rfl : v = Value.ref a := rx
    obtain ⟨h1, h2⟩ := exT_is I1 hq
    refine ⟨"tuple", id2, PySem.F.plainAttrs_tuple, sl2, ty2, h1, h2, ?_⟩
    have hA := ha.run cpos
                           pins s1 σ H1 _ I1 q1
    rw [hs] at hA ⊢
    refine Calls.callWith_builtin (by show (false || (backTo cpos (starEach es
                                                                               X.env)).any (·.1)) = false; rw [hplain] <;> rfl) (Calls.evalArgs_plain ?_)
    exact thn hA fun us s2 ⟨vs, H2, I2, r2', q2⟩ => hm2 pins s2 σ H2 (.ref a) vs _ us Q I2 rfl r2' q2
/-- t.index(x) -/
def rIndexT (K : PySem.W.Frag) : V → List V → Hp → VK → Prop := fun x xs H Q => ∃ (a : Addr) (y : V) (d : PyData) (ds : List PyData) (j : Nat) (z : PyData), x = V.ref a ∧ xs = [y] ∧ Dp K H (V.ref a) (.tuple ds) ∧ Dp K H y d ∧
  SeqAt.shaped (.tuple ds) = true ∧ SeqAt.shaped d = true ∧ ds[j]? = some z ∧ PyData.eqv z d = true ∧ (∀ (m : Nat) (z' : PyData), m < j → ds[m]? = some z' → PyData.eqv z' d = false) ∧ Q (.int (j : Nat)) H
theorem mt_indexT (hu : X.A.units + 65 < cLine) : MtR X "tuple.index" (rIndexT X.K) := by
  intro pins s σ H x
                     xs v us Q I rx rxs h
  obtain ⟨a, y, d, ds, j, z, rfl, rfl,
                                       hl, hy, sl, sd, hz, hzj, hno, q⟩ := h
  cases rx
  cases rxs with
  | cons ry rt =>
    rename_i uy ut
    cases rt
    obtain ⟨bs, r1⟩ :=
                       Dp.reads I d y uy hy ry
    have hxs : PyData.canLayAll0 ds =
                                      true := SeqAt.canLay_of_shaped sl
    have hroom : X.A.units + 1 + min (PyData.depthAll
                                                      ds) d.depth < cLine := room_in_shaped sd hu
    cases hl with
    | tup hs ha =>
      obtain ⟨its, rv, ⟨⟨cls, dd, data, sls⟩, ho, hc, n, hdt⟩, hlen⟩ := I.tuple hs
      simp only at hc hdt
      subst hc hdt
      obtain ⟨as, h4⟩ :=
                         Dp.readsAll I ds _ its ha rv
      have hn : its.length = ds.length :=
                                          SeqAt.ReadsAll.length ds its as h4
      have hmap : its.map (SeqAt.readOf s.heap)
                                                = ds := SeqAt.readsAll_map ds its as hxs h4
      obtain ⟨hjd, _⟩ :=
                         List.getElem?_eq_some_iff.mp hz
      have hjl : j <
                     its.length := by omega
      have hj : j < its.toArray.size
                                     := by simpa using hjl
      have at_ : ∀ (m : Nat) (hm : m < its.toArray.size) (z' : PyData),
                                                                        ds[m]? = some z' → SeqAt.readOf s.heap its.toArray[m] = z' := by
        intro m hm z' hz'
        have hml : m < its.length
                                  := by simpa using hm
        rw [← hmap, List.getElem?_map,
                                       List.getElem?_eq_getElem hml] at hz'
        have e1 : SeqAt.readOf s.heap its[m] = z' := Option.some.inj
                                                                     (show some (SeqAt.readOf s.heap its[m]) = some z' from hz')
        simpa using e1
      refine call_meets PySem.F.slot_tuple_index ⟨_, ho, rfl⟩ PySem.F.entry_tuple_index (PySem.F.args_tuple_index_2 _ _)
        (TI.tuple_indexAt a its.toArray n dd sls uy (fun u => PyData.eqv (SeqAt.readOf s.heap u) d) j hj ?_ ?_) ⟨ho, SeqAt.items_eqAt (vs := its.toArray) (show ReadsAll s.heap its.toArray.toList ds as from h4) r1 hxs (SeqAt.canLay_of_shaped sd) hroom, ?_⟩
      · show PyData.eqv (SeqAt.readOf
                                      s.heap its.toArray[j]) d = true
        rw [at_ j hj z hz]
        exact hzj
      · intro m hm hmj
        have hmd : m <
                       ds.length := by omega
        have hz' : ds[m]? = some ds[m]
                                       := List.getElem?_eq_getElem hmd
        show PyData.eqv (SeqAt.readOf
                                      s.heap its.toArray[m]) d = false
        rw [at_ m hm _ hz']
        exact hno m _ hmj hz'
      · exact ⟨.int (j : Nat),
                               H, I.tok _, ⟨_, rfl⟩, q⟩
end
/-- the receiver's kind -/
def kindK (u : U) (h : Mh) : Option Bool := match u with
  | .loc n => match h[n]? with
    | some (.lst _) => some true
    | some (.tup _) => some false
    | _ => none
  | .dat (.list _) => some true
  | .dat (.tuple _) => some false
  | _ => none
def mMtK (f1 f2 : Fm) (o : Me) (a : Ml) : Me := fun s h => (o s h).bind fun x h1 => match kindK x h1 with
  | some true => (a s h1).bind fun xs h2 => f1 x xs h2
  | some false => (a s h1).bind fun xs h2 => f2 x xs h2
  | none => .stuck
def fIndexT : Fm := fun x us h => match us with
  | [u] => match rd h deep u with
    | some d => match rd h deep x with
      | some (.tuple ds) => if SeqAt.shaped (.tuple ds) && SeqAt.shaped d then (match firstAt d ds 0 with
        | some j => .ok (.int (j : Nat)) h
        | none => .stuck) else .stuck
      | _ => .stuck
    | none => .stuck
  | _ => .stuck
section
variable {X : Cx} {g : Gc} {W : WX} {A : Me} {L : Ml} {o e : Expr} {es : List Expr} {apos cpos : Pos}
theorem kind_ok {ρ : Wd} {h : Mh} {H : Hp} {u : U} {v : V} {k : Bool} (cs : Cs g ρ h H) (r : Rl g ρ u v) (e : kindK u h = some k) : ∃ a, v = .ref a ∧ (k = true → ∃ xs, SqL g.K H a xs) ∧ (k = false → ExT g.K H a) := by
  unfold kindK at e
  split at e
  · split at e
    · rename_i n xs en
      cases e
      obtain ⟨a, vs, rfl, ea, rv, ha⟩ := cs.lst en r
      exact ⟨a, rfl, fun _ => ⟨vs, SqL.of ha⟩, fun z => (nomatch z)⟩
    · rename_i n xs en
      cases e
      obtain ⟨a, vs, o, rfl, ea, rv, hd, ha⟩ := cs.tup en r
      exact ⟨a, rfl, fun z => (nomatch z), fun _ => ⟨vs, .inl ⟨o, ha, hd⟩⟩⟩
    · cases e
  · cases e
    cases r.2 with
    | lst hs ha => exact ⟨_, rfl, fun _ => ⟨_, SqL.of (cs.fzH _ _ hs)⟩, fun z => (nomatch z)⟩
  · cases e
    cases r.2 with
    | tup hs ha => exact ⟨_, rfl, fun z => (nomatch z), fun _ => ⟨_, DT.hle hs cs.fzH⟩⟩
  · cases e
theorem s_indexT {K : PySem.W.Frag} (hK : K = g.K := by assumption) : SMt g K "tuple" fIndexT (rIndexT K) := fun E ρ x xs vx vs h H Q rx rs cs p => by
  subst hK
  unfold fIndexT at p
  split at p
  · rename_i u
    obtain ⟨v, rfl, r1⟩ := one_of rs
    split at p
    · rename_i d ed
      split at p
      · rename_i ds el
        split at p
        · rename_i es
          rw [Bool.and_eq_true] at es
          split at p
          · rename_i j ej
            obtain ⟨_, z, hz, hzd, hno⟩ := firstAt_ok ej
            have dl := rd_dp cs _ _ _ _ rx el
            cases dl with
            | tup hs ha => exact ⟨_, v, d, ds, j, z, rfl, rfl, .tup hs ha, rd_dp cs _ _ _ _ r1 ed, es.1, es.2, hz, hzd, hno, Post.here (rel := Rl g) p cs rfl⟩
          · exact p.elim
        · exact p.elim
      · exact p.elim
    · exact p.elim
  · exact p.elim
theorem e_indexD (hK : X.K = g.K := by assumption) (hu : X.A.units + 65 < cLine) (ho : PE X o (T g W A)) (ha : PA X (e :: es) (TL g W L))
    (hbase : attributeBase o "index" X.env (eval o X.env) = eval o X.env := by rfl) (hfew : ((backTo cpos (starEach (e :: es) X.env)).all (fun x => !x.1) && (backToKw cpos (keywordEach [] X.env)).all (fun x => x.1.isSome) && decide ((e :: es).length + ([] : List Keyword).length + (if ([] : List Keyword).isEmpty then 0 else 1) < 30)) = true := by rfl)
    (hline : (apos.endLine == cpos.line) = true := by rfl) (hss : starEach (e :: es) X.env = (false, eval e X.env) :: starEach es X.env := by rfl) (hplain : (backTo cpos (starEach es X.env)).any (·.1) = false := by rfl) :
    PE X (.Call (.Attribute o "index" apos) (e :: es) [] cpos) (T g W (mMtK fIndex fIndexT A L)) := by
  refine PE.im (pe_bmK PySem.F.slot_list_index PySem.F.type_list_index (mt_indexD hu) PySem.F.slot_tuple_index PySem.F.type_tuple_index (mt_indexT hu) ho ha hbase hfew hline hss hplain) fun σ H Q q => At.seq (rel := Rl g) q fun ρ1 x s h1 v H1 hs1 c1 r1 p1 => ?_
  cases ek : kindK x h1 with
  | none => rw [ek] at p1; exact p1.elim
  | some k =>
    rw [ek] at p1
    obtain ⟨ad, rfl, k1, k2⟩ := kind_ok c1 r1 ek
    refine ⟨ad, rfl, ?_⟩
    cases k with
    | true =>
      refine .inl ⟨by rw [hK]; exact k1 rfl, ρ1, s, h1, hs1, c1, (Post.cut (rel := Rls g) p1).imp fun ws H2 ⟨ρ2, us, h2, e2, c2, r2, p2⟩ => ?_⟩
      exact s_index hK _ ρ2 x us _ ws h2 H2 Q (Rl.mono e2 r1) r2 c2 p2
    | false =>
      refine .inr ⟨by rw [hK]; exact k2 rfl, ρ1, s, h1, hs1, c1, (Post.cut (rel := Rls g) p1).imp fun ws H2 ⟨ρ2, us, h2, e2, c2, r2, p2⟩ => ?_⟩
      exact s_indexT hK _ ρ2 x us _ ws h2 H2 Q (Rl.mono e2 r1) r2 c2 p2
end
end Vm

set_option Elab.async false
set_option linter.all false
set_option maxRecDepth 100000
set_option maxHeartbeats 4100000
namespace Vm
open L2 PyProof.Rows PySem PySem.Spec

/-! ### a list that is not changed from here on -/
theorem Paired.setL {α β : Type} {F : α → β → Prop} {x : α} {y : β} (q : F x y) : ∀ {xs : List α} {ys : List β} {i : Nat}, Paired F xs ys → ys[i]? = some y → Paired F (xs.set i x) ys
  | _, _, _, .nil, _ => .nil
  | _, _, 0, .cons _ t, e => by
    rw [List.getElem?_cons_zero] at e
    cases e
    exact .cons q t
  | _, _, i + 1, .cons r t, e => .cons r (Paired.setL q t (by rw [List.getElem?_cons_succ] at e; exact e))
section
variable {g : Gc} {ρ ρ' : Wd} {h h' : Mh} {H H' : Hp}
theorem Cs.fixL (c : Cs g ρ h H) {n : Nat} {a : Addr} {xs : List U} {vs : List V} (en : h[n]? = some (.lst xs)) (ea : ρ.as[n]? = some a) (eH : H a = some (.lst vs)) :
    Wd.Le ρ (ρ.frz a (.lst vs)) ∧ Cs g (ρ.frz a (.lst vs)) (h.set n .ded) H := by
  obtain ⟨z1, z2⟩ := c.live en ea
  have le : Wd.Le ρ (ρ.frz a (.lst vs)) := ⟨List.prefix_refl _, fun b u q => (by show upd ρ.fz a _ b = some u; rw [upd_ne (fun z => by rw [z, z1] at q; cases q)]; exact q), rfl, fun b h1 h2 => (by
    show upd ρ.fz a _ b = none
    rw [upd_ne (fun z => by rw [z, z2] at h2; exact h2 rfl)]
    exact h1)⟩
  refine ⟨le, by rw [List.length_set]; exact c.len, fun n' o' b e1 e2 => ?_, c.inj, c.scr, fun a' dd fs ex => ?_, fun b u q => ?_, c.lkH, fun n' o' b e1 e2 => ?_, fun b o' ys q => ?_⟩
  · by_cases hn : n = n'
    · subst hn
      have hl := (List.getElem?_eq_some_iff.mp e1).1
      rw [List.length_set] at hl
      rw [List.getElem?_set_self hl] at e1
      cases e1
      have e2 : ρ.as[n]? = some b := e2
      rw [ea] at e2
      cases e2
      exact ⟨_, eH⟩
    · rw [List.getElem?_set_ne hn] at e1
      exact Om.grow le.lx (c.at_ n' o' b e1 e2) fun _ _ q => q
  · obtain ⟨gs, r, q⟩ := c.xn a' dd fs ex
    exact ⟨gs, Rf.mono le r, q⟩
  · have q : upd ρ.fz a (.lst vs) b = some u := q
    by_cases z : b = a
    · subst z
      rw [upd_same] at q
      cases q
      exact eH
    · rw [upd_ne z] at q
      exact c.fzH b u q
  · by_cases hn : n = n'
    · subst hn
      have hl := (List.getElem?_eq_some_iff.mp e1).1
      rw [List.length_set] at hl
      rw [List.getElem?_set_self hl] at e1
      cases e1
      have e2 : ρ.as[n]? = some b := e2
      rw [ea] at e2
      cases e2
      exact ⟨z2, fun hd => absurd rfl hd⟩
    · rw [List.getElem?_set_ne hn] at e1
      have e2 : ρ.as[n']? = some b := e2
      obtain ⟨q1, q2⟩ := c.apt n' o' b e1 e2
      have hb : b ≠ a
                      := fun z => by
        subst z
        obtain ⟨h1, q1⟩ := List.getElem?_eq_some_iff.mp ea
        obtain ⟨h2, q2⟩ := List.getElem?_eq_some_iff.mp e2
        exact hn ((List.getElem_inj c.inj).mp (q1.trans q2.symm))
      refine ⟨q1, fun hd => ?_⟩
      show upd ρ.fz a _ b = none
      rw [upd_ne hb]
      exact q2 hd
  · have q : upd ρ.fz a (.lst vs) b = some (.frz o' (.lst ys)) := q
    by_cases z : b = a
    · subst z
      rw [upd_same] at q
      cases q
    · rw [upd_ne z] at q
      exact c.nfl b o' ys q
end
def sFrz (i : Nat) : Ms := fun s h => match s[i]? with
  | some (some (.loc n)) => match h[n]? with
    | some (.lst xs) => match pdsOf xs with
      | some ds => .nx (s.set i (some (.dat (.list ds)))) (h.set n .ded)
      | none => .stuck
    | _ => .stuck
  | _ => .stuck
section
variable {X : Cx} {g : Gc} {W : WX} {A B Cc : Me} {a b c e : Expr} {pos : Pos} {L : Ml} {M : Ms}
theorem s_fix {i : Nat} {ss : List Stmt} (hb : PSs X ss (TSm g W M)) : PSs X ss (TSm g W (sSeq (sFrz i) M)) := by
  refine PSs.im hb fun D σ H ⟨ρ, s, h, hs, cs, p⟩ => ?_
  unfold sSeq sFrz at p
  cases e1 : s[i]? with
  | none => rw [e1] at p; exact p.elim
  | some o =>
  rw [e1] at p
  cases o with
  | none => exact p.elim
  | some u =>
  cases u with
  | loc n =>
    simp only at p
    cases e2 : h[n]? with
    | none => rw [e2] at p; exact p.elim
    | some ob =>
      rw [e2] at p
      cases ob with
      | lst xs =>
        simp only at p
        cases e3 : pdsOf xs with
        | none => rw [e3] at p; exact p.elim
        | some ds =>
          rw [e3] at p
          simp only at p
          obtain ⟨ov, ev, rv⟩ := Paired.get hs e1
          cases ov with
          | none => exact rv.elim
          | some v =>
            have rv : Rl g ρ (.loc n) v := rv
            obtain ⟨ad, vs, rfl, ea, rl, eH⟩ := cs.lst e2 rv
            obtain ⟨le, cc⟩ := cs.fixL e2 ea eH
            have q : Rl g (ρ.frz ad (.lst vs)) (.dat (.list ds)) (.ref ad) := ⟨rfl, .lst upd_same (DqAll.hle le.fz _ _ (pds_ok rl e3))⟩
            exact ⟨_, _, _, Paired.setL (F := Rol g (ρ.frz ad (.lst vs))) (x := some (.dat (.list ds))) (y := some (.ref ad)) q (Rsl.mono le hs) ev, cc, PostS.mono le p⟩
      | _ => exact p.elim
  | _ => exact p.elim
/-- a list of its own that + makes -/
def fAddM : F2 := fun x y h => match seqOf x h, seqOf y h with
  | some (true, xs), some (true, ys) => if okLen (xs.length + ys.length) then newO (.lst (xs ++ ys)) h else .stuck
  | _, _ => .stuck
theorem s_addM {K : PySem.W.Frag} : S2 g fAddM (rAddAll K) := fun E ρ x y vx vy h H Q rx ry cs p => by
  unfold fAddM at p
  split at p
  · rename_i xs ys e1 e2
    obtain ⟨a, vs, rfl, rv, ha, _⟩ := seq_ok cs rx e1
    obtain ⟨b, ws, rfl, rw', hb, _⟩ := seq_ok cs ry e2
    cases eo : okLen (xs.length + ys.length) with
    | true =>
      rw [eo, if_pos rfl] at p
      exact .inr (.inr (.inl ⟨a, b, vs, ws, rfl, rfl, ha rfl, hb rfl, by rw [← Paired.length rv, ← Paired.length rw']; exact okLen_line eo, fun q hq => Post.made p cs hq ⟨_, Rls.mono (pre_snoc _ _) (Paired.app rv rw'), upd_same⟩⟩))
    | false => rw [eo, if_neg Bool.false_ne_true] at p; exact p.elim
  · exact p.elim
/-- a slice of a list that is to be changed -/
def fSlM (x : U) (lo hi : Option Int) (h : Mh) : R U := match seqOf x h with
  | some (true, xs) => newO (.lst (cutU xs lo hi)) h
  | _ => .stuck
end
/-! ### except C, C a class under the first one -/
def Exm (K : PySem.W.Frag) (cl : Nat → Addr) (n d : Nat) : Prop := ∀ c, c < n → PySem.W.exmOne K (.ref (cl c)) (.ref (cl d)) = some (c == d || d == 0)
def exmB (K : PySem.W.Frag) (cl : Nat → Addr) (n d : Nat) : Bool := allC n fun c => decide (PySem.W.exmOne K (.ref (cl c)) (.ref (cl d)) = some (c == d || d == 0))
theorem exmB_ok {K : PySem.W.Frag} {cl : Nat → Addr} {n d : Nat} (h : exmB K cl n d = true) : Exm K cl n d := fun c hc => of_decide_eq_true (allC_ok h c hc)
end Vm

set_option Elab.async false
set_option linter.all false
set_option maxRecDepth 100000
set_option maxHeartbeats 4100000
namespace Vm
open L2 PyProof.Rows PySem PySem.Spec

/-! ### a tuple, once over -/
theorem tuple_mul1W (l : Addr) (items : Array Value) (n : Nat) (dd : Option Addr) (sl : Array (Option Value)) (u : Tok) :
    Meets (Builtin.«tuple.__mul__» ⟨[.ref l, .int 1 u], []⟩) (fun _ R s => s.heap.get? l = some { cls := .type "tuple", dict := dd, data := .seq items n, slots := sl } ∧ R (.ok (.ret (Value.ref l))) s) :=
  .of_wp fun prog
                  w A R s h => by
    obtain ⟨hp, g,
                   d, tk, os⟩ := s
    obtain ⟨hl, h⟩ := h
    wp_walk using
                  wpAny_loadPart' hl
    repeat (first
      | (refine wpAny_ite_false (by decide) ?_; wp_walk using wpAny_loadPart' hl)
      | (refine wpAny_ite_true (by simp) ?_; wp_walk using wpAny_loadPart' hl))
    exact ⟨_, rfl, h⟩
def rRep1 (K : PySem.W.Frag) : R2 := fun x y H Q => ∃ l xs, x = .ref l ∧ y = .int 1 ∧ SqT K H l xs ∧ Q (.ref l) H
section
variable {X : Cx} {g : Gc}
theorem op_rep1 : OpR X (binaryOp .Mult) (rRep1 X.K) := by
  intro pins s σ H x
                     y v u Q I rx ry h
  obtain ⟨l, xs, rfl, rfl, hT, q⟩ := h
  cases rx
  obtain ⟨t, rfl⟩ := ry
  obtain ⟨its, r, ⟨⟨cls, dd, data, sl⟩,
                                        ho, hc, n, hd⟩, hs⟩ := I.tuple hT
  simp only at hc hd
  subst hc hd
  refine wpAny_binaryOp_repeat_ref (T := "tuple") (U := "int") (by decide) ⟨_, ho, rfl⟩ (fun s' => typeIs_int s' 1 t) noFill_tuple_mul F.fills_int_mul F.slot_int_rmul repeat_tuple F.slot_int_index.lookup
    (call_meets F.slot_int_rmul (typeIs_int s 1 t) F.entry_int_rmul (F.args_int_rmul_2 _ _) (int_rmul_tuple 1 t l its.toArray n dd sl)
      ⟨ho, rfl, ⟨_, ho, rfl⟩, call_meets F.slot_tuple_mul ⟨_, ho, rfl⟩ F.entry_tuple_mul (F.args_tuple_mul_2 _ _) (tuple_mul1W l its.toArray n dd sl t) ⟨ho, ?_⟩⟩)
  exact ⟨.ref l, _, I.tok _, rfl, q⟩
abbrev rMulE (K : PySem.W.Frag) : R2 := fun x y H Q => rMulD K x y H Q ∨ rRep1 K x y H Q
theorem o_mulE : OpR X (binaryOp .Mult) (rMulE X.K) := OpR.or o_mulD op_rep1
def fMulE : F2 := fun x y h => match y with
  | .int k => if k = 1 then (match seqOf x h with
    | some (false, _) => .ok x h
    | _ => fMulD x y h) else fMulD x y h
  | _ => fMulD x y h
theorem s_mulE {K : PySem.W.Frag} (hK : K = g.K := by assumption) : S2 g fMulE (rMulE K) := fun E ρ x y vx vy h H Q rx ry cs p => by
  unfold fMulE at p
  split at p
  · rename_i k
    by_cases hk : k = 1
    · rw [if_pos hk] at p
      split at p
      · rename_i xs es
        subst hk hK
        obtain ⟨a, vs, rfl, rv, _, ha⟩ := seq_ok cs rx es
        exact .inr ⟨a, vs, rfl, ry, ha rfl, Post.here (rel := Rl g) p cs rx⟩
      · exact .inl (s_mulD hK E ρ x _ vx vy h H Q rx ry cs p)
    · rw [if_neg hk] at p
      exact .inl (s_mulD hK E ρ x _ vx vy h H Q rx ry cs p)
  · exact .inl (s_mulD hK E ρ x y vx vy h H Q rx ry cs p)
end
end Vm

set_option Elab.async false
set_option linter.all false
set_option maxRecDepth 100000
set_option maxHeartbeats 4100000
namespace Vm
open L2 PyProof.Rows PySem PySem.Spec
/-! ### mirrors, unfolded -/
end Vm

set_option Elab.async false
set_option linter.all false
set_option maxRecDepth 100000
set_option maxHeartbeats 4100000
namespace Vm
open L2 PyProof.Rows PySem PySem.Spec
/-! ### data that goes in and out -/
abbrev eS (l : List Str) : List PyData := l.map PyData.str
@[simp] theorem pd_of : ∀ d : PyData, pdOf (ofPd d) = some d
  | .none => rfl
  | .bool _ => rfl
  | .int _ => rfl
  | .str _ => rfl
  | .list _ => rfl
  | .tuple _ => rfl
  | .dict _ => rfl
@[simp] theorem pds_of : ∀ ds : List PyData, pdsOf (ds.map ofPd) = some ds
  | [] => rfl
  | d :: ds => by rw [List.map_cons, pdsOf, pd_of, pds_of ds]
@[simp] theorem pu_of (d : PyData) : pureU (ofPd d) = true := by cases d <;> rfl
@[simp] theorem pus_of (ds : List PyData) : (ds.map ofPd).all pureU = true := by
  rw [List.all_map, List.all_eq_true]
  exact fun d _ => pu_of d
@[simp] theorem of_str (l : List Str) : (eS l).map ofPd = l.map U.str := by rw [eS, List.map_map]; rfl
@[simp] theorem pds_str (l : List Str) : pdsOf (l.map U.str) = some (eS l) := by rw [← of_str, pds_of]
theorem newT_of (ds : List PyData) (h : Mh) : newT (ds.map ofPd) h = .ok (.dat (.tuple ds)) h := by rw [newT, pds_of]
theorem newL_of (ds : List PyData) (h : Mh) : newL (ds.map ofPd) h = .ok (.dat (.list ds)) h := by rw [newL, pds_of]
theorem newL_str (l : List Str) (h : Mh) : newL (l.map U.str) h = .ok (.dat (.list (eS l))) h := by rw [newL, pds_str]
theorem newT_str (l : List Str) (h : Mh) : newT (l.map U.str) h = .ok (.dat (.tuple (eS l))) h := by rw [newT, pds_str]
theorem newL_at {us : List U} {ds : List PyData} {h : Mh} (e : pdsOf us = some ds) : newL us h = .ok (.dat (.list ds)) h := by rw [newL, e]
theorem newT_at {us : List U} {ds : List PyData} {h : Mh} (e : pdsOf us = some ds) : newT us h = .ok (.dat (.tuple ds)) h := by rw [newT, e]
theorem vSeq_list (ds : List PyData) : vSeq (.dat (.list ds)) = some (ds.map ofPd) := rfl
theorem vSeq_tuple (ds : List PyData) : vSeq (.dat (.tuple ds)) = some (ds.map ofPd) := rfl
/-- a comprehension whose parts leave the heap -/
theorem loopCF_pure {t : Gt} {q : Mb} {e : Me} {s : Sl} {h : Mh} {qb : U → Bool} {fe : U → U} : ∀ {us : List U}, (∀ x ∈ us, ∃ s1, t x s h = some s1 ∧ q s1 h = .ok (qb x) h ∧ (qb x = true → e s1 h = .ok (fe x) h)) →
    loopCF t q e s us h = .ok ((us.filter qb).map fe) h
  | [], _ => rfl
  | x :: us, k => by
    obtain ⟨s1, e1, e2, e3⟩ := k x (by simp [slotsOf, sSeq, sIf, sAsg, sRet, sRetN, sE, sPut, Vm.putIn, bV, bNot, bAnd, bOr, m2, m1, mV, mC, mBt, mCall, lC, lN, R.bind, R.bindS, fIxD, seqOf, fGt, fLt, fLe, fGe, fSub, fMod, fDiv, fPow, fI, asB, fInt, gtN, pureO, pureU, outM, outU, fMulE, fMulD, fAddD, sPass, fAbs, fMax2, fMin2, mIf, mL, newO, fLenD, P0.at, pdOf])
    have ih := loopCF_pure (us := us) fun y hy => k y (by simp [slotsOf, sSeq, sIf, sAsg, sRet, sRetN, sE, sPut, Vm.putIn, bV, bNot, bAnd, bOr, m2, m1, mV, mC, mBt, mCall, lC, lN, R.bind, R.bindS, fIxD, seqOf, fGt, fLt, fLe, fGe, fSub, fMod, fDiv, fPow, fI, asB, fInt, gtN, pureO, pureU, outM, outU, fMulE, fMulD, fAddD, sPass, fAbs, fMax2, fMin2, mIf, mL, newO, fLenD, P0.at, pdOf, hy])
    unfold loopCF
    rw [e1]
    simp only
    rw [e2]
    cases hq : qb x with
    | true =>
      simp only
      rw [e3 hq]
      simp only
      rw [ih]
      simp [slotsOf, sSeq, sIf, sAsg, sRet, sRetN, sE, sPut, Vm.putIn, bV, bNot, bAnd, bOr, m2, m1, mV, mC, mBt, mCall, lC, lN, R.bind, R.bindS, fIxD, seqOf, fGt, fLt, fLe, fGe, fSub, fMod, fDiv, fPow, fI, asB, fInt, gtN, pureO, pureU, outM, outU, fMulE, fMulD, fAddD, sPass, fAbs, fMax2, fMin2, mIf, mL, newO, fLenD, P0.at, pdOf, List.filter_cons, hq]
    | false =>
      simp only
      rw [ih]
      simp [slotsOf, sSeq, sIf, sAsg, sRet, sRetN, sE, sPut, Vm.putIn, bV, bNot, bAnd, bOr, m2, m1, mV, mC, mBt, mCall, lC, lN, R.bind, R.bindS, fIxD, seqOf, fGt, fLt, fLe, fGe, fSub, fMod, fDiv, fPow, fI, asB, fInt, gtN, pureO, pureU, outM, outU, fMulE, fMulD, fAddD, sPass, fAbs, fMax2, fMin2, mIf, mL, newO, fLenD, P0.at, pdOf, List.filter_cons, hq]
/-- a loop by an invariant of what is left -/
theorem loopF_inv {t : Gt} {b : Ms} {I : List U → Sl → Mh → Prop} (step : ∀ x us s h, I (x :: us) s h → ∃ s1 s2 h2, t x s h = some s1 ∧ (b s1 h = .nx s2 h2 ∨ b s1 h = .ct s2 h2) ∧ I us s2 h2) : ∀ {us : List U} {s : Sl} {h : Mh}, I us s h → ∃ s' h', loopF t b us s h = .nx s' h' ∧ I [] s' h'
  | [], s, h, i => ⟨s, h, rfl, i⟩
  | x :: us, s, h, i => by
    obtain ⟨s1, s2, h2, e1, e2, i2⟩ := step x us s h i
    obtain ⟨s', h', e3, i3⟩ := loopF_inv step i2
    refine ⟨s', h', ?_, i3⟩
    unfold loopF
    rw [e1]
    simp only
    rcases e2 with e2 | e2 <;> rw [e2] <;> exact e3
end Vm

set_option Elab.async false
set_option linter.all false
set_option maxRecDepth 100000
set_option maxHeartbeats 4100000
namespace Vm
open L2 PyProof.Rows PySem PySem.Spec
/-! ### reading data, in, ==, all -/
@[simp] theorem rd_of (h : Mh) : ∀ (k : Nat) (d : PyData), rd h k (ofPd d) = some d
  | 0, .none => rfl
  | 0, .bool _ => rfl
  | 0, .int _ => rfl
  | 0, .str _ => rfl
  | 0, .list _ => rfl
  | 0, .tuple _ => rfl
  | 0, .dict _ => rfl
  | _ + 1, .none => rfl
  | _ + 1, .bool _ => rfl
  | _ + 1, .int _ => rfl
  | _ + 1, .str _ => rfl
  | _ + 1, .list _ => rfl
  | _ + 1, .tuple _ => rfl
  | _ + 1, .dict _ => rfl
theorem rdL_of (h : Mh) (k : Nat) : ∀ ds : List PyData, rdL (rd h k) (ds.map ofPd) = some ds
  | [] => rfl
  | d :: ds => by rw [List.map_cons, rdL, rd_of, rdL_of h k ds]
theorem rd_dat (h : Mh) (k : Nat) (d : PyData) : rd h k (.dat d) = some d := by cases k <;> rfl
theorem rd_loc {h : Mh} {n : Nat} {ds : List PyData} (e : h[n]? = some (.lst (ds.map ofPd))) : rd h deep (.loc n) = some (.list ds) := by
  show (match h[n]? with
    | some (.lst xs) => match rdL (rd h 39) xs with
      | some ds => some (PyData.list ds)
      | none => none
    | some (.tup xs) => match rdL (rd h 39) xs with
      | some ds => some (PyData.tuple ds)
      | none => none
    | _ => none) = some (PyData.list ds)
  rw [e]
  simp only
  rw [rdL_of]
/-- plain things: no list within, no strange sign -/
def Lf (d : PyData) : Prop := d.canLay0 = true ∧ d.depth = 0
theorem Lf.all : ∀ {ds : List PyData}, (∀ d ∈ ds, Lf d) → PyData.canLayAll0 ds = true ∧ PyData.depthAll ds = 0
  | [], _ => ⟨rfl, rfl⟩
  | d :: ds, k => by
    obtain ⟨h1, h2⟩ := k d (by simp [slotsOf, sSeq, sIf, sAsg, sRet, sRetN, sE, sPut, Vm.putIn, bV, bNot, bAnd, bOr, m2, m1, mV, mC, mBt, mCall, lC, lN, R.bind, R.bindS, fIxD, seqOf, fGt, fLt, fLe, fGe, fSub, fMod, fDiv, fPow, fI, asB, fInt, gtN, pureO, pureU, outM, outU, fMulE, fMulD, fAddD, sPass, fAbs, fMax2, fMin2, mIf, mL, newO, fLenD, P0.at, pdOf])
    obtain ⟨h3, h4⟩ := Lf.all (ds := ds) fun e he => k e (List.mem_cons_of_mem _ he)
    simp [slotsOf, sSeq, sIf, sAsg, sRet, sRetN, sE, sPut, Vm.putIn, bV, bNot, bAnd, bOr, m2, m1, mV, mC, mBt, mCall, lC, lN, R.bind, R.bindS, fIxD, seqOf, fGt, fLt, fLe, fGe, fSub, fMod, fDiv, fPow, fI, asB, fInt, gtN, pureO, pureU, outM, outU, fMulE, fMulD, fAddD, sPass, fAbs, fMax2, fMin2, mIf, mL, newO, fLenD, P0.at, pdOf, PyData.canLayAll0, PyData.depthAll, h1, h2, h3, h4]
theorem Lf.shaped {d : PyData} (k : Lf d) : SeqAt.shaped d = true := by simp [slotsOf, sSeq, sIf, sAsg, sRet, sRetN, sE, sPut, Vm.putIn, bV, bNot, bAnd, bOr, m2, m1, mV, mC, mBt, mCall, lC, lN, R.bind, R.bindS, fIxD, seqOf, fGt, fLt, fLe, fGe, fSub, fMod, fDiv, fPow, fI, asB, fInt, gtN, pureO, pureU, outM, outU, fMulE, fMulD, fAddD, sPass, fAbs, fMax2, fMin2, mIf, mL, newO, fLenD, P0.at, pdOf, SeqAt.shaped, k.1, k.2]
theorem Lf.list {ds : List PyData} (k : ∀ d ∈ ds, Lf d) : SeqAt.shaped (.list ds) = true := by
  obtain ⟨h1, h2⟩ := Lf.all k
  simp [slotsOf, sSeq, sIf, sAsg, sRet, sRetN, sE, sPut, Vm.putIn, bV, bNot, bAnd, bOr, m2, m1, mV, mC, mBt, mCall, lC, lN, R.bind, R.bindS, fIxD, seqOf, fGt, fLt, fLe, fGe, fSub, fMod, fDiv, fPow, fI, asB, fInt, gtN, pureO, pureU, outM, outU, fMulE, fMulD, fAddD, sPass, fAbs, fMax2, fMin2, mIf, mL, newO, fLenD, P0.at, pdOf, SeqAt.shaped, PyData.canLay0, PyData.depth, h1, h2]
theorem Lf.tuple {ds : List PyData} (k : ∀ d ∈ ds, Lf d) : SeqAt.shaped (.tuple ds) = true := by
  obtain ⟨h1, h2⟩ := Lf.all k
  simp [slotsOf, sSeq, sIf, sAsg, sRet, sRetN, sE, sPut, Vm.putIn, bV, bNot, bAnd, bOr, m2, m1, mV, mC, mBt, mCall, lC, lN, R.bind, R.bindS, fIxD, seqOf, fGt, fLt, fLe, fGe, fSub, fMod, fDiv, fPow, fI, asB, fInt, gtN, pureO, pureU, outM, outU, fMulE, fMulD, fAddD, sPass, fAbs, fMax2, fMin2, mIf, mL, newO, fLenD, P0.at, pdOf, SeqAt.shaped, PyData.canLay0, PyData.depth, h1, h2]
theorem Lf.str {x : Str} (h : PyData.strOk x = true) : Lf (.str x) := ⟨h, rfl⟩
theorem Lf.int (i : Int) : Lf (.int i) := ⟨rfl, rfl⟩
/-- a kind of things whose == is = -/
structure Emb {α : Type} [DecidableEq α] (emb : α → PyData) (ok : α → Prop) : Prop where
  eq : ∀ x y, PyData.eqv (emb x) (emb y) = decide (x = y)
  lf : ∀ x, ok x → Lf (emb x)
theorem eqv_str (x y : Str) : PyData.eqv (.str x) (.str y) = decide (x = y) := by
  unfold PyData.eqv
  by_cases h : x = y
  · subst h; simp [slotsOf, sSeq, sIf, sAsg, sRet, sRetN, sE, sPut, Vm.putIn, bV, bNot, bAnd, bOr, m2, m1, mV, mC, mBt, mCall, lC, lN, R.bind, R.bindS, fIxD, seqOf, fGt, fLt, fLe, fGe, fSub, fMod, fDiv, fPow, fI, asB, fInt, gtN, pureO, pureU, outM, outU, fMulE, fMulD, fAddD, sPass, fAbs, fMax2, fMin2, mIf, mL, newO, fLenD, P0.at, pdOf]
  · simp [slotsOf, sSeq, sIf, sAsg, sRet, sRetN, sE, sPut, Vm.putIn, bV, bNot, bAnd, bOr, m2, m1, mV, mC, mBt, mCall, lC, lN, R.bind, R.bindS, fIxD, seqOf, fGt, fLt, fLe, fGe, fSub, fMod, fDiv, fPow, fI, asB, fInt, gtN, pureO, pureU, outM, outU, fMulE, fMulD, fAddD, sPass, fAbs, fMax2, fMin2, mIf, mL, newO, fLenD, P0.at, pdOf, h]
theorem eqv_int (x y : Int) : PyData.eqv (.int x) (.int y) = decide (x = y) := by
  unfold PyData.eqv
  by_cases h : x = y
  · subst h; simp [slotsOf, sSeq, sIf, sAsg, sRet, sRetN, sE, sPut, Vm.putIn, bV, bNot, bAnd, bOr, m2, m1, mV, mC, mBt, mCall, lC, lN, R.bind, R.bindS, fIxD, seqOf, fGt, fLt, fLe, fGe, fSub, fMod, fDiv, fPow, fI, asB, fInt, gtN, pureO, pureU, outM, outU, fMulE, fMulD, fAddD, sPass, fAbs, fMax2, fMin2, mIf, mL, newO, fLenD, P0.at, pdOf]
  · simp [slotsOf, sSeq, sIf, sAsg, sRet, sRetN, sE, sPut, Vm.putIn, bV, bNot, bAnd, bOr, m2, m1, mV, mC, mBt, mCall, lC, lN, R.bind, R.bindS, fIxD, seqOf, fGt, fLt, fLe, fGe, fSub, fMod, fDiv, fPow, fI, asB, fInt, gtN, pureO, pureU, outM, outU, fMulE, fMulD, fAddD, sPass, fAbs, fMax2, fMin2, mIf, mL, newO, fLenD, P0.at, pdOf, h]
theorem emb_str : Emb PyData.str (fun x => PyData.strOk x = true) := ⟨eqv_str, fun x h => Lf.str h⟩
theorem emb_int : Emb PyData.int (fun _ => True) := ⟨eqv_int, fun x _ => Lf.int x⟩
section
variable {α : Type} [DecidableEq α] {emb : α → PyData} {ok : α → Prop}
theorem Emb.lfs (E : Emb emb ok) {l : List α} (k : ∀ x ∈ l, ok x) : ∀ d ∈ l.map emb, Lf d := fun d hd => by
  obtain ⟨x, hx, rfl⟩ := List.mem_map.mp hd
  exact E.lf x (k x hx)
theorem Emb.any (E : Emb emb ok) (l : List α) (x : α) : (l.map emb).any (fun z => PyData.eqv z (emb x)) = decide (x ∈ l) := by
  induction l with
  | nil => simp [slotsOf, sSeq, sIf, sAsg, sRet, sRetN, sE, sPut, Vm.putIn, bV, bNot, bAnd, bOr, m2, m1, mV, mC, mBt, mCall, lC, lN, R.bind, R.bindS, fIxD, seqOf, fGt, fLt, fLe, fGe, fSub, fMod, fDiv, fPow, fI, asB, fInt, gtN, pureO, pureU, outM, outU, fMulE, fMulD, fAddD, sPass, fAbs, fMax2, fMin2, mIf, mL, newO, fLenD, P0.at, pdOf]
  | cons y l ih =>
    rw [List.map_cons, List.any_cons, ih, E.eq]
    by_cases h : y = x
    · subst h; simp [slotsOf, sSeq, sIf, sAsg, sRet, sRetN, sE, sPut, Vm.putIn, bV, bNot, bAnd, bOr, m2, m1, mV, mC, mBt, mCall, lC, lN, R.bind, R.bindS, fIxD, seqOf, fGt, fLt, fLe, fGe, fSub, fMod, fDiv, fPow, fI, asB, fInt, gtN, pureO, pureU, outM, outU, fMulE, fMulD, fAddD, sPass, fAbs, fMax2, fMin2, mIf, mL, newO, fLenD, P0.at, pdOf]
    · simp [slotsOf, sSeq, sIf, sAsg, sRet, sRetN, sE, sPut, Vm.putIn, bV, bNot, bAnd, bOr, m2, m1, mV, mC, mBt, mCall, lC, lN, R.bind, R.bindS, fIxD, seqOf, fGt, fLt, fLe, fGe, fSub, fMod, fDiv, fPow, fI, asB, fInt, gtN, pureO, pureU, outM, outU, fMulE, fMulD, fAddD, sPass, fAbs, fMax2, fMin2, mIf, mL, newO, fLenD, P0.at, pdOf, h, Ne.symm h, eq_comm]
      
theorem Emb.in_at (E : Emb emb ok) {l : List α} {x : α} {y : U} {h : Mh} (kx : ok x) (k : ∀ x ∈ l, ok x) (e : rd h deep y = some (.list (l.map emb)) ∨ rd h deep y = some (.tuple (l.map emb))) : fInB (ofPd (emb x)) y h = some (decide (x ∈ l)) := by
  unfold fInB
  rw [rd_of]
  rcases e with e | e
  · rw [e]
    simp only
    rw [(E.lf x kx).shaped, Lf.list (E.lfs k), E.any]
    rfl
  · rw [e]
    simp only
    rw [(E.lf x kx).shaped, Lf.tuple (E.lfs k), E.any]
    rfl
end
theorem bls_of (bs : List Bool) : blsOf (bs.map U.bl) = some bs := by
  induction bs with
  | nil => rfl
  | cons b bs ih => rw [List.map_cons, blsOf, ih]
theorem fAll_bl (bs : List Bool) (h : Mh) : fAllD [.dat (.list (bs.map PyData.bool))] h = .ok (.bl (bs.all id)) h := by
  have e : (bs.map PyData.bool).map ofPd = bs.map U.bl := by rw [List.map_map]; rfl
  simp only [fAllD, seqOf, e, bls_of]
/-- all([True, ..]) by a comprehension: the answers of its parts -/
theorem newL_bl (bs : List Bool) (h : Mh) : newL (bs.map U.bl) h = .ok (.dat (.list (bs.map PyData.bool))) h := by
  have e : (bs.map PyData.bool).map ofPd = bs.map U.bl := by rw [List.map_map]; rfl
  rw [← e]
  exact newL_of _ _
theorem filter_yes {α : Type} (l : List α) : l.filter (fun _ => true) = l := List.filter_eq_self.mpr fun _ _ => rfl
/-- a comprehension without if -/
theorem mLcF_yes {m : Mw} {t : Gt} {e : Me} {vs : List Nat} {s : Sl} {h : Mh} {us : List U} {fe : U → PyData} (hm : m s h = .ok us h) (hl : us.length < lim) (k : ∀ x ∈ us, ∃ s1, t x (wipeM s vs) h = some s1 ∧ e s1 h = .ok (ofPd (fe x)) h) :
    mLcF m t bYes e vs s h = .ok (.dat (.list (us.map fe))) h := by
  have := loopCF_pure (t := t) (q := bYes) (e := e) (s := wipeM s vs) (h := h) (qb := fun _ => true) (fe := fun x => ofPd (fe x)) (us := us) fun x hx => by
    obtain ⟨s1, e1, e2⟩ := k x hx
    exact ⟨s1, e1, rfl, fun _ => e2⟩
  unfold mLcF
  rw [hm]
  simp only [R.bind]
  rw [decide_eq_true hl, if_pos rfl, this]
  simp only
  rw [filter_yes, show us.map (fun x => ofPd (fe x)) = (us.map fe).map ofPd by rw [List.map_map]; rfl]
  exact newL_of _ _
/-- with one -/
theorem mLcF_if {m : Mw} {t : Gt} {q : Mb} {e : Me} {vs : List Nat} {s : Sl} {h : Mh} {us : List U} {qb : U → Bool} {fe : U → PyData} (hm : m s h = .ok us h) (hl : us.length < lim) (k : ∀ x ∈ us, ∃ s1, t x (wipeM s vs) h = some s1 ∧ q s1 h = .ok (qb x) h ∧ (qb x = true → e s1 h = .ok (ofPd (fe x)) h)) :
    mLcF m t q e vs s h = .ok (.dat (.list ((us.filter qb).map fe))) h := by
  have := loopCF_pure (t := t) (q := q) (e := e) (s := wipeM s vs) (h := h) (qb := qb) (fe := fun x => ofPd (fe x)) (us := us) k
  unfold mLcF
  rw [hm]
  simp only [R.bind]
  rw [decide_eq_true hl, if_pos rfl, this]
  simp only
  rw [show (us.filter qb).map (fun x => ofPd (fe x)) = ((us.filter qb).map fe).map ofPd by rw [List.map_map]; rfl]
  exact newL_of _ _
/-- a def's answer by its body's -/
theorem pfn_rt {N : Nat} {m : Ms} {us : List U} {u u' : U} {h : Mh} (k : us.all pureU = true) (e : m (slotsOf N us) [] = .rt u h) (o : outU h u = some u') : pfn N m us = .ok u' := by
  unfold pfn
  rw [k, if_pos rfl, e]
  simp only [toP]
  rw [o]
theorem pfn_nx {N : Nat} {m : Ms} {us : List U} {s : Sl} {h : Mh} (k : us.all pureU = true) (e : m (slotsOf N us) [] = .nx s h) : pfn N m us = .ok .non := by
  unfold pfn
  rw [k, if_pos rfl, e]
  rfl
theorem pfn_ex {N : Nat} {m : Ms} {us : List U} {c : Nat} {f : List (Str × U)} {s : Sl} {h : Mh} (k : us.all pureU = true) (e : m (slotsOf N us) [] = .ex c f s h) (o : pureF f = true) : pfn N m us = .ex c f := by
  unfold pfn
  rw [k, if_pos rfl, e]
  simp only [toP]
  rw [o, if_pos rfl]
theorem runP_ok {p : List U → P0} {us : List U} {u : U} (e : p us = .ok u) (h : Mh) : runP p us h = .ok u h := by
  show (p us).at h = _
  rw [e]
  rfl
theorem runP_ex {p : List U → P0} {us : List U} {c : Nat} {f : List (Str × U)} (e : p us = .ex c f) (h : Mh) : runP p us h = .ex c f h := by
  show (p us).at h = _
  rw [e]
  rfl
theorem out_of (h : Mh) (d : PyData) : outU h (ofPd d) = some (ofPd d) := by cases d <;> rfl
end Vm

set_option Elab.async false
set_option linter.all false
set_option maxRecDepth 100000
set_option maxHeartbeats 4100000
namespace Vm
open L2 PyProof.Rows PySem PySem.Spec
/-! ### how long a repr is -/
theorem from_len (c : Nat) : ∀ (ts : List Str) (k : Nat) (acc : Str), (∀ t ∈ ts, t.length ≤ c) → (textFrom k acc ts).length ≤ acc.length + ts.length * (c + 2)
  | [], k, acc, _ => by
    show acc.length ≤ _
    omega
  | t :: r, k, acc, h => by
    have ih := from_len c r (k + 1) (acc ++ (if k > 0 then ", " else "" : String) ++ t) fun x hx => h x (List.mem_cons_of_mem _ hx)
    have e : (acc ++ (if k > 0 then ", " else "" : String) ++
                                                              t).length = acc.length + (if k > 0 then 2 else 0) + t.length := by
      rw [strLen_append,
                         strLen_append]
      split <;> rfl
    have ht := h t (by simp [slotsOf, sSeq, sIf, sAsg, sRet, sRetN, sE, sPut, Vm.putIn, bV, bNot, bAnd, bOr, m2, m1, mV, mC, mBt, mCall, lC, lN, R.bind, R.bindS, fIxD, seqOf, fGt, fLt, fLe, fGe, fSub, fMod, fDiv, fPow, fI, asB, fInt, gtN, pureO, pureU, outM, outU, fMulE, fMulD, fAddD, sPass, fAbs, fMax2, fMin2, mIf, mL, newO, fLenD, P0.at, pdOf])
    rw [e] at ih
    rw [List.length_cons, Nat.succ_mul]
    refine Nat.le_trans ih ?_
    split <;> omega
theorem listText_len {c : Nat} {ts : List Str} (h : ∀ t ∈ ts, t.length ≤ c) : (listText ts).length ≤ ts.length * (c + 2) + 2 := by
  unfold listText
  have := from_len c ts 0 "[" h
  rw [strLen_append]
  have e : (("[" : String) : Str).length = 1 := rfl
  have e2 : (("]" : String) : Str).length = 1 := rfl
  rw [e] at this
  rw [e2]
  omega
theorem join_len {c : Nat} : ∀ {ts : List Str}, (∀ t ∈ ts, t.length ≤ c) → (Str.join ", " ts).length ≤ ts.length * (c + 2)
  | [], _ => Nat.zero_le _
  | [x], h => by
    have := h x (by simp [slotsOf, sSeq, sIf, sAsg, sRet, sRetN, sE, sPut, Vm.putIn, bV, bNot, bAnd, bOr, m2, m1, mV, mC, mBt, mCall, lC, lN, R.bind, R.bindS, fIxD, seqOf, fGt, fLt, fLe, fGe, fSub, fMod, fDiv, fPow, fI, asB, fInt, gtN, pureO, pureU, outM, outU, fMulE, fMulD, fAddD, sPass, fAbs, fMax2, fMin2, mIf, mL, newO, fLenD, P0.at, pdOf])
    show x.length ≤ 1 * (c + 2)
    omega
  | x :: y :: r, h => by
    have ih := join_len (ts := y :: r) fun t ht => h t (List.mem_cons_of_mem _ ht)
    have hx := h x (by simp [slotsOf, sSeq, sIf, sAsg, sRet, sRetN, sE, sPut, Vm.putIn, bV, bNot, bAnd, bOr, m2, m1, mV, mC, mBt, mCall, lC, lN, R.bind, R.bindS, fIxD, seqOf, fGt, fLt, fLe, fGe, fSub, fMod, fDiv, fPow, fI, asB, fInt, gtN, pureO, pureU, outM, outU, fMulE, fMulD, fAddD, sPass, fAbs, fMax2, fMin2, mIf, mL, newO, fLenD, P0.at, pdOf])
    show (x ++ ", " ++ Str.join ", " (y :: r)).length ≤ _
    have e2 : ((", " : String)
                               : Str).length = 2 := rfl
    rw [strLen_append, strLen_append, e2, List.length_cons, Nat.succ_mul]
    omega
theorem tupleText_len {c : Nat} {ts : List Str} (h : ∀ t ∈ ts, t.length ≤ c) : (tupleText ts).length ≤ ts.length * (c + 2) + 3 := by
  unfold tupleText
  have := join_len h
  have e : (("(" : String) : Str).length = 1 := rfl
  rw [strLen_append, strLen_append, e]
  have e2 : ((if ts.length == 1 then ",)" else ")" : String) : Str).length ≤ 2 := by
    by_cases hb : (ts.length == 1) = true
    · rw [if_pos hb]; decide +kernel
    · rw [if_neg hb]; decide +kernel
  omega
theorem strOk_app (a b : Str) : PyData.strOk (a ++ b) = (PyData.strOk a && PyData.strOk b) := by
  show (a.cps ++ b.cps).all _ = (a.cps.all _ && b.cps.all _)
  rw [Array.all_append]
theorem from_ok : ∀ (ts : List Str) (k : Nat) (acc : Str), PyData.strOk acc = true → (∀ t ∈ ts, PyData.strOk t = true) → PyData.strOk (textFrom k acc ts) = true
  | [], k, acc, h, _ => h
  | t :: r, k, acc, h, ht => by
    refine from_ok r (k + 1) _ ?_ fun x hx => ht x (List.mem_cons_of_mem _ hx)
    rw [strOk_app, strOk_app, h, ht t (by simp [slotsOf, sSeq, sIf, sAsg, sRet, sRetN, sE, sPut, Vm.putIn, bV, bNot, bAnd, bOr, m2, m1, mV, mC, mBt, mCall, lC, lN, R.bind, R.bindS, fIxD, seqOf, fGt, fLt, fLe, fGe, fSub, fMod, fDiv, fPow, fI, asB, fInt, gtN, pureO, pureU, outM, outU, fMulE, fMulD, fAddD, sPass, fAbs, fMax2, fMin2, mIf, mL, newO, fLenD, P0.at, pdOf])]
    have : PyData.strOk ((if k > 0 then ", " else "" : String) : Str) = true := by
      split
      · decide +kernel
      · decide +kernel
    rw [this]
    rfl
theorem listText_ok {ts : List Str} (h : ∀ t ∈ ts, PyData.strOk t = true) : PyData.strOk (listText ts) = true := by
  unfold listText
  rw [strOk_app, from_ok ts 0 _ (by decide +kernel) h]
  decide +kernel
theorem join_ok : ∀ {ts : List Str}, (∀ t ∈ ts, PyData.strOk t = true) → PyData.strOk (Str.join ", " ts) = true
  | [], _ => by decide +kernel
  | [x], h => h x (by simp [slotsOf, sSeq, sIf, sAsg, sRet, sRetN, sE, sPut, Vm.putIn, bV, bNot, bAnd, bOr, m2, m1, mV, mC, mBt, mCall, lC, lN, R.bind, R.bindS, fIxD, seqOf, fGt, fLt, fLe, fGe, fSub, fMod, fDiv, fPow, fI, asB, fInt, gtN, pureO, pureU, outM, outU, fMulE, fMulD, fAddD, sPass, fAbs, fMax2, fMin2, mIf, mL, newO, fLenD, P0.at, pdOf])
  | x :: y :: r, h => by
    have ih := join_ok (ts := y :: r) fun t ht => h t (List.mem_cons_of_mem _ ht)
    show PyData.strOk (x ++ ", " ++ Str.join ", " (y :: r)) = true
    rw [strOk_app, strOk_app, h x (by simp [slotsOf, sSeq, sIf, sAsg, sRet, sRetN, sE, sPut, Vm.putIn, bV, bNot, bAnd, bOr, m2, m1, mV, mC, mBt, mCall, lC, lN, R.bind, R.bindS, fIxD, seqOf, fGt, fLt, fLe, fGe, fSub, fMod, fDiv, fPow, fI, asB, fInt, gtN, pureO, pureU, outM, outU, fMulE, fMulD, fAddD, sPass, fAbs, fMax2, fMin2, mIf, mL, newO, fLenD, P0.at, pdOf]), ih]
    decide +kernel
theorem tupleText_ok {ts : List Str} (h : ∀ t ∈ ts, PyData.strOk t = true) : PyData.strOk (tupleText ts) = true := by
  unfold tupleText
  rw [strOk_app, strOk_app, join_ok h]
  have : PyData.strOk ((if ts.length == 1 then ",)" else ")" : String) : Str) = true := by
    by_cases hb : (ts.length == 1) = true
    · rw [if_pos hb]; decide +kernel
    · rw [if_neg hb]; decide +kernel
  rw [this]
  decide +kernel
structure Sk (c dp : Nat) (d : PyData) : Prop where
  so : PyData.strOk d.shown = true
  lay : d.canLay0 = true
  sw : d.showable = true
  ln : d.shown.length ≤ c
  dp : d.depth ≤ dp
theorem Sk.mono {c c' dp dp' : Nat} {d : PyData} (h : Sk c dp d) (h1 : c ≤ c') (h2 : dp ≤ dp') : Sk c' dp' d := ⟨h.so, h.lay, h.sw, Nat.le_trans h.ln h1, Nat.le_trans h.dp h2⟩
theorem Sk.all {c dp : Nat} : ∀ {ds : List PyData}, (∀ d ∈ ds, Sk c dp d) → PyData.canLayAll0 ds = true ∧ PyData.showableAll ds = true ∧ PyData.depthAll ds ≤ dp ∧ (∀ t ∈ PyData.shownAll ds, PyData.strOk t = true ∧ t.length ≤ c) ∧ (PyData.shownAll ds).length = ds.length
  | [], _ => ⟨rfl, rfl, Nat.zero_le _, fun _ h => (nomatch h), rfl⟩
  | d :: ds, h => by
    obtain ⟨h0, h1, h2, h3, h4⟩ := h d (by simp [slotsOf, sSeq, sIf, sAsg, sRet, sRetN, sE, sPut, Vm.putIn, bV, bNot, bAnd, bOr, m2, m1, mV, mC, mBt, mCall, lC, lN, R.bind, R.bindS, fIxD, seqOf, fGt, fLt, fLe, fGe, fSub, fMod, fDiv, fPow, fI, asB, fInt, gtN, pureO, pureU, outM, outU, fMulE, fMulD, fAddD, sPass, fAbs, fMax2, fMin2, mIf, mL, newO, fLenD, P0.at, pdOf])
    obtain ⟨q1, q2, q3, q4, q5⟩ := Sk.all (ds := ds) fun e he => h e (List.mem_cons_of_mem _ he)
    refine ⟨by simp [slotsOf, sSeq, sIf, sAsg, sRet, sRetN, sE, sPut, Vm.putIn, bV, bNot, bAnd, bOr, m2, m1, mV, mC, mBt, mCall, lC, lN, R.bind, R.bindS, fIxD, seqOf, fGt, fLt, fLe, fGe, fSub, fMod, fDiv, fPow, fI, asB, fInt, gtN, pureO, pureU, outM, outU, fMulE, fMulD, fAddD, sPass, fAbs, fMax2, fMin2, mIf, mL, newO, fLenD, P0.at, pdOf, PyData.canLayAll0, h1, q1], by simp [slotsOf, sSeq, sIf, sAsg, sRet, sRetN, sE, sPut, Vm.putIn, bV, bNot, bAnd, bOr, m2, m1, mV, mC, mBt, mCall, lC, lN, R.bind, R.bindS, fIxD, seqOf, fGt, fLt, fLe, fGe, fSub, fMod, fDiv, fPow, fI, asB, fInt, gtN, pureO, pureU, outM, outU, fMulE, fMulD, fAddD, sPass, fAbs, fMax2, fMin2, mIf, mL, newO, fLenD, P0.at, pdOf, PyData.showableAll, h2, q2], by simp [slotsOf, sSeq, sIf, sAsg, sRet, sRetN, sE, sPut, Vm.putIn, bV, bNot, bAnd, bOr, m2, m1, mV, mC, mBt, mCall, lC, lN, R.bind, R.bindS, fIxD, seqOf, fGt, fLt, fLe, fGe, fSub, fMod, fDiv, fPow, fI, asB, fInt, gtN, pureO, pureU, outM, outU, fMulE, fMulD, fAddD, sPass, fAbs, fMax2, fMin2, mIf, mL, newO, fLenD, P0.at, pdOf, PyData.depthAll]; omega, fun t ht => ?_, by simp [slotsOf, sSeq, sIf, sAsg, sRet, sRetN, sE, sPut, Vm.putIn, bV, bNot, bAnd, bOr, m2, m1, mV, mC, mBt, mCall, lC, lN, R.bind, R.bindS, fIxD, seqOf, fGt, fLt, fLe, fGe, fSub, fMod, fDiv, fPow, fI, asB, fInt, gtN, pureO, pureU, outM, outU, fMulE, fMulD, fAddD, sPass, fAbs, fMax2, fMin2, mIf, mL, newO, fLenD, P0.at, pdOf, PyData.shownAll, q5]⟩
    rcases (by simpa [slotsOf, sSeq, sIf, sAsg, sRet, sRetN, sE, sPut, Vm.putIn, bV, bNot, bAnd, bOr, m2, m1, mV, mC, mBt, mCall, lC, lN, R.bind, R.bindS, fIxD, seqOf, fGt, fLt, fLe, fGe, fSub, fMod, fDiv, fPow, fI, asB, fInt, gtN, pureO, pureU, outM, outU, fMulE, fMulD, fAddD, sPass, fAbs, fMax2, fMin2, mIf, mL, newO, fLenD, P0.at, pdOf, PyData.shownAll] using ht : t = d.shown ∨ t ∈ PyData.shownAll ds) with rfl | ht
    · exact ⟨h0, h3⟩
    · exact q4 t ht
theorem Sk.list {c dp m : Nat} {ds : List PyData} (h : ∀ d ∈ ds, Sk c dp d) (hm : ds.length ≤ m) : Sk (m * (c + 2) + 3) (dp + 1) (.list ds) := by
  obtain ⟨q1, q2, q3, q4, q5⟩ := Sk.all h
  refine ⟨listText_ok fun t ht => (q4 t ht).1, q1, q2, ?_, by show PyData.depthAll ds + 1 ≤ _; omega⟩
  have := listText_len fun t ht => (q4 t ht).2
  have z : ds.length * (c + 2) ≤ m * (c + 2) := Nat.mul_le_mul_right _ hm
  rw [q5] at this
  show (listText (PyData.shownAll ds)).length ≤ _
  omega
theorem Sk.tuple {c dp m : Nat} {ds : List PyData} (h : ∀ d ∈ ds, Sk c dp d) (hm : ds.length ≤ m) : Sk (m * (c + 2) + 3) (dp + 1) (.tuple ds) := by
  obtain ⟨q1, q2, q3, q4, q5⟩ := Sk.all h
  refine ⟨tupleText_ok fun t ht => (q4 t ht).1, q1, q2, ?_, by show PyData.depthAll ds + 1 ≤ _; omega⟩
  have := tupleText_len fun t ht => (q4 t ht).2
  have z : ds.length * (c + 2) ≤ m * (c + 2) := Nat.mul_le_mul_right _ hm
  rw [q5] at this
  show (tupleText (PyData.shownAll ds)).length ≤ _
  omega
theorem Sk.shaped {c dp : Nat} {d : PyData} (h : Sk c dp d) (hd : dp ≤ 60) : SeqAt.shaped d = true := by
  have := h.dp
  simp [slotsOf, sSeq, sIf, sAsg, sRet, sRetN, sE, sPut, Vm.putIn, bV, bNot, bAnd, bOr, m2, m1, mV, mC, mBt, mCall, lC, lN, R.bind, R.bindS, fIxD, seqOf, fGt, fLt, fLe, fGe, fSub, fMod, fDiv, fPow, fI, asB, fInt, gtN, pureO, pureU, outM, outU, fMulE, fMulD, fAddD, sPass, fAbs, fMax2, fMin2, mIf, mL, newO, fLenD, P0.at, pdOf, SeqAt.shaped, h.lay]
  omega
theorem Sk.repr {c dp : Nat} {d : PyData} (h : Sk c dp d) (hd : dp ≤ 60) (hc : c ≤ 100000) : (!d.hasDict && d.showable && decide (d.shown.length ≤ 100000) && decide (d.depth ≤ 60)) = true := by
  have := h.dp
  have := h.ln
  rw [PyData.hasDict_of_canLay d h.lay, h.sw, decide_eq_true (by omega), decide_eq_true (by omega)]
  rfl
end Vm

set_option Elab.async false
set_option linter.all false
set_option maxRecDepth 100000
set_option maxHeartbeats 4100000
namespace Vm
open L2 PyProof.Rows PySem PySem.Spec
/-! ### several except clauses, some with a name -/
abbrev Tsx := Addr → Value → Option Addr → TS
def wHs (K : PySem.W.Frag) (Wout : WX) (D : Ends) : List (Value × Option Nat × Tsx) → WX
  | [] => Wout
  | (cv, none, ts) :: r => fun cls d σ H => ∃ b, PySem.W.exmOne K cls cv = some b ∧ (b = true → ∀ a, H a = none → ts a cls d D σ H) ∧ (b = false → wHs K Wout D r cls d σ H)
  | (cv, some i, ts) :: r => fun cls d σ H => ∃ b, PySem.W.exmOne K cls cv = some b ∧
      (b = true → ∀ a, H a = none → ts a cls d { nx := fun σ1 H1 => D.nx (σ1.set i none) H1, rt := D.rt, bk := fun σ1 H1 => D.bk (σ1.set i none) H1, ct := fun σ1 H1 => D.ct (σ1.set i none) H1 } (σ.set i (some (.ref a))) H) ∧
      (b = false → wHs K Wout D r cls d σ H)
inductive HdsN (X : Cx) : List ExceptHandler → List (Value × Option Nat × Tsx) → Prop
  | nil : HdsN X [] []
  | one {x : Str} {cv : Value} {ts : Tsx} {b₀ : Stmt} {suite : List Stmt} {np pos' : Pos} {hds : List ExceptHandler} {l : List (Value × Option Nat × Tsx)} (hc : Names X x cv)
      (hsu : ∀ (a : Addr) (oe : Obj) (cls : Value) (d : Option Addr) (pn : List (Addr × Obj)), Zc cls d oe → (∃ vs, oe.data = .fields vs) → PSs (X.suite a ((a, oe) :: pn)) (b₀ :: suite) (ts a cls d))
      (r : HdsN X hds l) : HdsN X (.ExceptHandler (some (.Name x np)) none (b₀ :: suite) pos' :: hds) ((cv, none, ts) :: l)
  | named {x n : Str} {i : Nat} {cv : Value} {ts : Tsx} {b₀ : Stmt} {suite : List Stmt} {np pos' : Pos} {hds : List ExceptHandler} {l : List (Value × Option Nat × Tsx)} (hi : X.N[i]? = some n) (hln : X.env.kindOf n = some .local) (hc : Names X x cv)
      (hsu : ∀ (a : Addr) (oe : Obj) (cls : Value) (d : Option Addr) (pn : List (Addr × Obj)), Zc cls d oe → (∃ vs, oe.data = .fields vs) → PSs (X.suite a ((a, oe) :: pn)) (b₀ :: suite) (ts a cls d))
      (r : HdsN X hds l) : HdsN X (.ExceptHandler (some (.Name x np)) (some n) (b₀ :: suite) pos' :: hds) ((cv, some i, ts) :: l)
/-- an exception of the class cls, with the dict d, is caught in X's frame: t is the state, sI the one it was raised in -/
structure Seen (X : Cx) (pins : List (Addr × Obj)) (σ : L2.St) (H : Hp) (a : Addr) (cls : Value) (d : Option Addr) (B : Heap) (sI t : Shared) : Prop where
  frame : X.stack = X.env :: X.outer ∧ X.env.frame = some X.env.locals
  was : Inv X pins σ H sI
  low : ∀ b o, sI.heap.get? b = some o → b ∉ frs X.stack → B.get? b = some o
  slots : sI.heap.UpToSlots t.heap
  fly : HandSPX.FlyingZ B (X.env :: X.outer) a (Zc cls d) t.heap
  new : H a = none
  sameOs : t.os = sI.os
  bare : AllBare t.gens
namespace Seen
section
variable {X : Cx} {pins : List (Addr × Obj)} {σ : L2.St} {H : Hp} {a : Addr} {cls : Value} {d : Option Addr} {B : Heap} {sI t : Shared} {D : Ends}
/-- the flight may be noted once more -/
theorem again (k : Seen X pins σ H a cls d B sI t) {g : Heap} (f : HandSPX.FlyingZ B (X.env :: X.outer) a (Zc cls d) g) (u : t.heap.UpToSlots g) : Seen X pins σ H a cls d B sI { t with heap := g } :=
  { frame := k.frame, was := k.was, low := k.low, slots := k.slots.trans u, fly := f, new := k.new, sameOs := k.sameOs, bare := k.bare }
theorem inv (k : Seen X pins σ H a cls d B sI t) : Inv X pins σ H t := Inv.landed k.was k.low k.fly.1 k.slots k.sameOs k.bare
/-- its object, and where it does not lie -/
theorem obj (k : Seen X pins σ H a cls d B sI t) : ∃ (q : Obj) (fs : Array Value), t.heap.get? a = some q ∧ Zc cls d q ∧ q.data = .fields fs ∧ a ∉ frs (X.env :: X.outer) := by
  obtain ⟨q, fs, e1, e2, e3⟩ := k.fly.there
  exact ⟨q, fs, e1, e2, e3, fun m => (k.fly.2.2.1.mem m).elim fun _ z => z.elim fun q2 y => absurd e3 (by
    have := y.1.symm.trans e1
    cases this
    exact y.2 _)⟩
theorem inSuite (k : Seen X pins σ H a cls d B sI t) : ∃ q : Obj, Zc cls d q ∧ (∃ fs, q.data = .fields fs) ∧ Inv (X.suite a ((a, q) :: (X.pn ++ pins))) [] σ H t := by
  obtain ⟨q, fs, e1, e2, e3, out⟩ := k.obj
  refine ⟨q, e2, ⟨fs, e3⟩, k.inv.suite e1 e3 k.new (fun e => ?_) fun m => ?_⟩
  · exact out (List.mem_filterMap.mpr ⟨X.env, .head _, e ▸ k.frame.2⟩)
  · obtain ⟨v, hv, e⟩ := List.mem_filterMap.mp m
    exact out (List.mem_filterMap.mpr ⟨v, .tail _ hv, e⟩)
/-- the class of a clause is looked up and held against it -/
theorem tested (k : Seen X pins σ H a cls d B sI t) {x : Str} {np : Pos} {cv : Value} {b : Bool} (nm : Names X x cv) (e : PySem.W.exmOne X.K cls cv = some b) {R : Bool → Shared → Prop} {E E2 : Value → Shared → Prop} (r : R b t) :
    wpAny (model X.prog X.w) (X.A.mark (some (.ref a))) (eval (.Name x np) X.env) (fun c u => wpAny (model X.prog X.w) (X.A.mark (some (.ref a))) (excMatches (.ref a) c) R E u) E2 t := by
  obtain ⟨q, fs, e1, e2, _, _⟩ := k.obj
  obtain ⟨q', _, _, I⟩ := k.inSuite
  have cl : PySem.W.Looks (model X.prog X.w) t.heap (typeOf (.ref a)) cls := fun _ _ _ _ kp y => wpAny_typeOf_ref (kp _ _ e1) (e2.1.symm ▸ y)
  have ans := (PySem.W.exm_one (M := model X.prog X.w) k.inv.kIn cl e).here (A := X.A.mark (some (.ref a))) (E := E) (Q := R) (s := t) r
  rcases nm.2.2 with m | ⟨m, bv, nn⟩
  · exact ld_glob (X := X.suite a ((a, q') :: (X.pn ++ pins))) I nm.1 m ans nm.2.1
  · exact ld_blt (X := X.suite a ((a, q') :: (X.pn ++ pins))) I nm.1 m bv ans nn nm.2.1
/-- no clause is left: it flies on -/
theorem out (k : Seen X pins σ H a cls d B sI t) {W : WX} (tk : Takes X W) (w : W cls d σ H) : wpAny (model X.prog X.w) X.A (handleBy (.ref a) X.env []) (SP X pins D) X.xe t := by
  apply wpAny_handleBy_nil
  obtain ⟨_, _, _, _, _, T, _, _, e1, _, e3, e4, _⟩ := id k.fly
  have nn : ¬ (Value.ref T == Value.none) = true := by intro z; cases z
  have last : wpAny (model X.prog X.w) X.A (setFlight (.ref a) X.env.frame) (fun _ u => wpAny (model X.prog X.w) X.A (throw (.ref a) : Sem Flow) (SP X pins D) X.xe u) X.xe t :=
    k.frame.2.symm ▸ HandSPX.setFlight_upZ k.fly fun g held u => wpAny_throw (tk (.ref a) { t with heap := g } ⟨a, B, sI, pins, σ, H, cls, d, rfl, k.was, k.low, k.slots.trans u, .inr (.inr (k.frame.1.symm ▸ held)), k.new, k.sameOs, k.bare, w⟩)
  unfold PySem.passOn
  apply wpAny_bind
  apply wpAny_field e1 e3 e4
  rw [if_neg nn]
  first
    | exact wpAny_bind last
    | exact wpAny_bind (wpAny_pure (wpAny_bind last))
end
end Seen
/-- how a suite's end is an end of the whole -/
theorem SP.leave {X : Cx} {a : Addr} {q : Addr × Obj} {pins : List (Addr × Obj)} {D : Ends} (ok : X.Ok) {f : Flow} {u : Shared} (y : SP (X.suite a (q :: (X.pn ++ pins))) [] D f u) : SP X pins D f u := by
  cases f with
  | ret w => exact y.imp fun _ y => y.imp fun _ y => y.imp fun _ y => ⟨y.1.unsuite ok, y.2⟩
  | _ => exact y.imp fun _ y => y.imp fun _ y => ⟨y.1.unsuite ok, y.2⟩
/-- behind it the clause's name goes -/
abbrev Ends.without (D : Ends) (i : Nat) : Ends := { nx := fun σ H => D.nx (σ.set i none) H, rt := D.rt, bk := fun σ H => D.bk (σ.set i none) H, ct := fun σ H => D.ct (σ.set i none) H }
theorem SP.nameless {X : Cx} {pins : List (Addr × Obj)} {D : Ends} {i : Nat} {n : Str} {p : Pos} (nd : X.N.Nodup) (hi : X.N[i]? = some n) (hl : X.env.kindOf n = some .local) {f : Flow} {u : Shared} (y : SP X pins (Ends.without D i) f u) :
    wpAny (model X.prog X.w) X.A (do bindName X.env n .none; unbindBehindTheSuite X.env n p) (fun _ v => SP X pins D f v) X.xe u := by
  cases f with
  | ret w =>
    obtain ⟨c1, c2, c3, J, c4, c5⟩ := y
    exact gone_ok J nd hi hl fun v K => ⟨c1, _, c3, K, c4, c5⟩
  | _ =>
    obtain ⟨c1, c2, J, c3⟩ := y
    exact gone_ok J nd hi hl fun v K => ⟨_, c2, K, c3⟩
section
variable {X : Cx} {pins : List (Addr × Obj)} {σ : L2.St} {H : Hp} {a : Addr} {cls : Value} {d : Option Addr} {B : Heap} {sI t : Shared} {D : Ends} {x : Str} {cv : Value} {ts : Tsx} {b₀ : Stmt} {suite : List Stmt} {np pos' : Pos} {hds : List ExceptHandler}
abbrev SuiteOk (X : Cx) (ss : List Stmt) (ts : Tsx) : Prop := ∀ (a : Addr) (q : Obj) (cls : Value) (d : Option Addr) (pn : List (Addr × Obj)), Zc cls d q → (∃ fs, q.data = .fields fs) → PSs (X.suite a ((a, q) :: pn)) ss (ts a cls d)
/-- a clause that does not take it -/
theorem Seen.skip (k : Seen X pins σ H a cls d B sI t) {nn : Option Str} (nm : Names X x cv) (e : PySem.W.exmOne X.K cls cv = some false) (r : wpAny (model X.prog X.w) X.A (handleBy (.ref a) X.env hds) (SP X pins D) X.xe t) :
    wpAny (model X.prog X.w) X.A (handleBy (.ref a) X.env (.ExceptHandler (some (.Name x np)) nn (b₀ :: suite) pos' :: hds)) (SP X pins D) X.xe t :=
  wpAny_handleBy_cons (codeAny_handlers_test (k.tested nm e r)) (fun z => nomatch z)
/-- a clause without a name that takes it -/
theorem Seen.plain (k : Seen X pins σ H a cls d B sI t) (nm : Names X x cv) (e : PySem.W.exmOne X.K cls cv = some true) (sk : SuiteOk X (b₀ :: suite) ts) (r : ts a cls d D σ H) :
    wpAny (model X.prog X.w) X.A (handleBy (.ref a) X.env (.ExceptHandler (some (.Name x np)) none (b₀ :: suite) pos' :: hds)) (SP X pins D) X.xe t := by
  refine wpAny_handleBy_cons (codeAny_handlers_test (k.tested nm e (codeAny_handlers_suite (HandSPX.lands_againZ k.fly fun g f u => ?_)))) fun z => nomatch z
  obtain ⟨q, zq, fq, I⟩ := (k.again f u).inSuite
  exact wpAny_mono ((sk a q cls d _ zq fq).run [] _ σ H D I r) (fun _ _ y => SP.leave k.was.ok y) fun _ _ => False.elim
/-- one with a name -/
theorem Seen.named (k : Seen X pins σ H a cls d B sI t) {i : Nat} {n : Str} (nd : X.N.Nodup) (hi : X.N[i]? = some n) (hl : X.env.kindOf n = some .local) (nm : Names X x cv) (e : PySem.W.exmOne X.K cls cv = some true) (sk : SuiteOk X (b₀ :: suite) ts) (r : ts a cls d (Ends.without D i) (σ.set i (some (.ref a))) H) :
    wpAny (model X.prog X.w) X.A (handleBy (.ref a) X.env (.ExceptHandler (some (.Name x np)) (some n) (b₀ :: suite) pos' :: hds)) (SP X pins D) X.xe t := by
  refine wpAny_handleBy_cons (codeAny_handlers_test (k.tested nm e (codeAny_handlers_suite_as (HandSPX.lands_againZ k.fly fun g f u => ?_)))) fun z => nomatch z
  obtain ⟨q, zq, fq, I⟩ := (k.again f u).inSuite
  refine store_ok (X := X.suite a ((a, q) :: (X.pn ++ pins))) (v := V.ref a) (u := .ref a) I nd hi (Or.inl hl) rfl (fun v J => ?_) (Or.inr hl)
  exact wpAny_mono ((sk a q cls d _ zq fq).run [] v _ H _ J r) (fun _ _ y => SP.nameless nd hi hl (SP.leave k.was.ok y)) fun _ _ => False.elim
/-- all clauses, one after the other -/
theorem Seen.clauses (k : Seen X pins σ H a cls d B sI t) (nd : X.N.Nodup) {W : WX} (tk : Takes X W) {l : List (Value × Option Nat × Tsx)} (hk : HdsN X hds l) : wHs X.K W D l cls d σ H → wpAny (model X.prog X.w) X.A (handleBy (.ref a) X.env hds) (SP X pins D) X.xe t := by
  induction hk with
  | nil => exact k.out tk
  | one nm sk _ ih =>
    rintro ⟨b, e, y, n⟩
    cases b with
    | true => exact k.plain nm e sk (y rfl a k.new)
    | false => exact k.skip nm e (ih (n rfl))
  | named hi hl nm sk _ ih =>
    rintro ⟨b, e, y, n⟩
    cases b with
    | true => exact k.named nd hi hl nm e sk (y rfl a k.new)
    | false => exact k.skip nm e (ih (n rfl))
end
/-- try with clauses of both kinds -/
theorem ps_tryN {X : Cx} {body : List Stmt} {h₀ : ExceptHandler} {hds : List ExceptHandler} {l : List (Value × Option Nat × Tsx)} {pos : Pos} {tb : WX → TS} {W : WX} (st : X.stack = X.env :: X.outer) (fr : X.env.frame = some X.env.locals) (nd : X.N.Nodup) (tk : Takes X W)
    (bd : ∀ (W' : WX) (pn : List (Addr × Obj)) (xe : Value → Shared → Prop), Takes (X.tr pn xe) W' → PassesOwn (model X.prog X.w) X.A X.env xe → PSs (X.tr pn xe) body (tb W')) (hk : HdsN X (h₀ :: hds) l) :
    PS X (.Try body (h₀ :: hds) [] [] pos) fun D σ H => tb (wHs X.K W D l) D σ H := by
  constructor
  intro pins s σ H D I r
  have fs : X.A.frames = some (X.env :: X.outer) := st ▸ I.ok.frames
  let caught : Value → Shared → Prop := fun e s₁ => wpAny (model X.prog X.w) X.A (noteFrame e X.env) (fun _ s₂ => wpAny (model X.prog X.w) X.A (setFlight e none) (fun _ s₃ => wpAny (model X.prog X.w) X.A (handleBy e X.env (h₀ :: hds)) (SP X pins D) X.xe s₃) X.xe s₂) X.xe s₁
  have takes : Takes (X.tr (X.pn ++ pins) caught) (wHs X.K W D l) := by
    rintro e s₁ ⟨a, B, sI, pn, σ₁, H₁, cls, d, rfl, J, low, up, sky, new, os, ag, w⟩
    refine Sky.land Zc.steady fs fr (st ▸ sky : Sky B (X.env :: X.outer) a (Zc cls d) X.env.locals s₁.heap) fun g f u => ?_
    exact Seen.clauses { frame := ⟨st, fr⟩, was := J.ofTry I.ok, low := low, slots := up.trans u, fly := f, new := new, sameOs := os, bare := ag } nd tk hk w
  refine wpAny_Try_except (wpAny_mono ((bd _ (X.pn ++ pins) caught takes PassesOwn.looking).run [] s σ H D (I.toTry _) r) (fun f u y => ?_) fun _ _ y => y)
  cases f with
  | next =>
    obtain ⟨c1, c2, J, c3⟩ := y
    exact wpAny_execs_nil ⟨c1, c2, J.ofTry I.ok, c3⟩
  | ret w => exact y.imp fun _ y => y.imp fun _ y => y.imp fun _ y => ⟨y.1.ofTry I.ok, y.2⟩
  | _ => exact y.imp fun _ y => y.imp fun _ y => ⟨y.1.ofTry I.ok, y.2⟩
/-- the mirror of one clause -/
structure Hm where
  tks : Nat → Option Bool
  slot : Option Nat
  sx : Nat → List (Str × U) → Ms
def handM : List Hm → Nat → List (Str × U) → Sl → Mh → RS
  | [], c, f, s, h => .ex c f s h
  | hd :: r, c, f, s, h => match hd.tks c with
    | some true => match hd.slot with
      | none => noEx (hd.sx c [] s h)
      | some i => match f with
        | [] => .stuck
        | p :: f => unslot i (hd.sx c (p :: f) (s.set i (some .exn)) h)
    | some false => handM r c f s h
    | none => .stuck
def sTryM (b : Ms) (hs : List Hm) : Ms := fun s h => match b s h with
  | .ex c f s1 h1 => handM hs c f s1 h1
  | r => r
/-- what a clause's suite keeps -/
def tsOf (g : Gc) (m : Hm) : Tsx := match m.slot with
  | none => fun _ cls d D σ H => ∃ c, cls = .ref (g.cl c) ∧ m.tks c = some true ∧ TSm g W0 (m.sx c []) D σ H
  | some _ => fun a cls d D σ H => ∃ c dd f, cls = .ref (g.cl c) ∧ d = some dd ∧ m.tks c = some true ∧ TSm (g.at a dd f) W0 (m.sx c f) D σ H
def tsl (g : Gc) : List Value → List Hm → List (Value × Option Nat × Tsx)
  | cv :: cvs, m :: hs => (cv, m.slot, tsOf g m) :: tsl g cvs hs
  | _, _ => []
inductive HdM (X : Cx) (g : Gc) : List ExceptHandler → List Value → List Hm → Prop
  | nil : HdM X g [] [] []
  | one {x : Str} {cv : Value} {b₀ : Stmt} {suite : List Stmt} {np pos' : Pos} {hds : List ExceptHandler} {cvs : List Value} {hs : List Hm} {tks : Nat → Option Bool} {N : Ms} (hc : Names X x cv)
      (hx : ∀ c k, tks c = some k → PySem.W.exmOne X.K (.ref (g.cl c)) cv = some k)
      (hsu : ∀ (a : Addr) (pn : List (Addr × Obj)), PSs (X.suite a pn) (b₀ :: suite) (TSm g W0 N))
      (r : HdM X g hds cvs hs) : HdM X g (.ExceptHandler (some (.Name x np)) none (b₀ :: suite) pos' :: hds) (cv :: cvs) (⟨tks, none, fun _ _ => N⟩ :: hs)
  | named {x n : Str} {i : Nat} {cv : Value} {b₀ : Stmt} {suite : List Stmt} {np pos' : Pos} {hds : List ExceptHandler} {cvs : List Value} {hs : List Hm} {tks : Nat → Option Bool} {N : Nat → List (Str × U) → Ms} (hi : X.N[i]? = some n) (hln : X.env.kindOf n = some .local) (hc : Names X x cv)
      (hx : ∀ c k, tks c = some k → PySem.W.exmOne X.K (.ref (g.cl c)) cv = some k)
      (hsu : ∀ (a : Addr) (oe : Obj) (c : Nat) (dd : Addr) (f : List (Str × U)) (pn : List (Addr × Obj)), tks c = some true → Zc (.ref (g.cl c)) (some dd) oe → (∃ vs, oe.data = .fields vs) → PSs (X.suite a ((a, oe) :: pn)) (b₀ :: suite) (TSm (g.at a dd f) W0 (N c f)))
      (r : HdM X g hds cvs hs) : HdM X g (.ExceptHandler (some (.Name x np)) (some n) (b₀ :: suite) pos' :: hds) (cv :: cvs) (⟨tks, some i, N⟩ :: hs)
section
variable {X : Cx} {g : Gc} {W : WX} {M : Ms}
theorem HdM.hds {l : List ExceptHandler} {cvs : List Value} {hs : List Hm} (k : HdM X g l cvs hs) : HdsN X l (tsl g cvs hs) := by
  induction k with
  | nil => exact .nil
  | one hc hx hsu r ih =>
    refine .one hc (fun a oe cls d pn _ _ => ⟨fun pins s σ H D I q => ?_⟩) ih
    obtain ⟨c, _, _, q⟩ := q
    exact (hsu a _).run pins s σ H D I q
  | named hi hln hc hx hsu r ih =>
    refine .named hi hln hc (fun a oe cls d pn hz hd => ⟨fun pins s σ H D I q => ?_⟩) ih
    obtain ⟨c, dd, f, rfl, rfl, ht, q⟩ := q
    exact (hsu a oe c dd f pn ht hz hd).run pins s σ H D I q
theorem hand_ok {l : List ExceptHandler} {cvs : List Value} {hs : List Hm} (hgx : g.exn = none) (k : HdM X g l cvs hs) {ρ ρ' : Wd} {c : Nat} {f : List (Str × U)} {s1 : Sl} {h1 : Mh} {D : Ends} {σ' : L2.St} {H' : Hp} (p : PostS g W ρ (handM hs c f s1 h1) D) (e' : Wd.Le ρ ρ')
    (c' : Cs g ρ' h1 H') (r' : Rsl g ρ' s1 σ') : (f = [] → wHs X.K W D (tsl g cvs hs) (.ref (g.cl c)) none σ' H') ∧ ∀ d gs, f ≠ [] → H' d = none → Rf g ρ' f gs → wHs X.K W D (tsl g cvs hs) (.ref (g.cl c)) (some d) σ' (upd H' d (.xd gs)) := by
  induction k with
  | nil => exact p ρ' σ' H' e' c' r'
  | @one x cv b₀ suite np pos' hds cvs hs tks N hc hx hsu r ih =>
    unfold handM at p
    cases et : tks c with
    | none => simp only [et] at p; exact p.elim
    | some b =>
      have ek := hx c b et
      simp only [et] at p
      cases b with
      | true =>
        have q : PostS g W0 ρ' (N s1 h1) D := PostS.mono e' (PostS.noEx p)
        exact ⟨fun _ => ⟨true, ek, fun _ a _ => ⟨c, rfl, et, ρ', s1, h1, r', c', q⟩, (fun z => nomatch z)⟩, fun d gs _ hd _ => ⟨true, ek, fun _ a _ => ⟨c, rfl, et, ρ', s1, h1, r', c'.skip hd, q⟩, (fun z => nomatch z)⟩⟩
      | false => exact ⟨fun f0 => ⟨false, ek, (fun z => nomatch z), fun _ => (ih p).1 f0⟩, fun d gs f0 hd rf => ⟨false, ek, (fun z => nomatch z), fun _ => (ih p).2 d gs f0 hd rf⟩⟩
  | @named x n i cv b₀ suite np pos' hds cvs hs tks N hi hln hc hx hsu r ih =>
    unfold handM at p
    cases et : tks c with
    | none => simp only [et] at p; exact p.elim
    | some b =>
      have ek := hx c b et
      simp only [et] at p
      cases b with
      | false => exact ⟨fun f0 => ⟨false, ek, (fun z => nomatch z), fun _ => (ih p).1 f0⟩, fun d gs f0 hd rf => ⟨false, ek, (fun z => nomatch z), fun _ => (ih p).2 d gs f0 hd rf⟩⟩
      | true =>
        cases f with
        | nil => exact p.elim
        | cons p0 f0 =>
        simp only at p
        have hne : p0 :: f0 ≠ [] := by simp
        clear ih
        generalize p0 :: f0 = f at p hne
        refine ⟨fun f0 => absurd f0 hne, fun d gs _ hd rf => ⟨true, ek, fun _ a ha => ⟨c, d, f, rfl, rfl, et, ρ', s1.set i (some .exn), h1, ?_, Cs.up hgx (c'.skip hd) rf upd_same, ?_⟩, (fun z => nomatch z)⟩⟩
        · exact Paired.set (F := Rol (g.at a d f) ρ') (x := some .exn) (y := some (.ref a)) ⟨a, d, f, rfl, rfl⟩ i (Rsl.up hgx r')
        · have p := PostS.mono e' p
          show PostS (g.at a d f) W0 ρ' (N c f (s1.set i (some .exn)) h1) _
          cases en : N c f (s1.set i (some .exn)) h1 with
          | nx s2 h2 =>
            rw [en] at p
            simp only [unslot] at p
            cases ek : (cleanS (s2.set i none) && h2.all cleanO) with
            | true =>
              rw [ek, if_pos rfl] at p
              rw [Bool.and_eq_true] at ek
              intro ρ2 σ2 H2 e2 c2 r2
              exact p ρ2 _ H2 e2 (c2.down hgx ek.2) (Rsl.down (Paired.set (F := Rol (g.at a d f) ρ2) (x := none) (y := none) trivial i r2) ek.1)
            | false => rw [ek, if_neg Bool.false_ne_true] at p; exact p.elim
          | rt u h2 =>
            rw [en] at p
            simp only [unslot] at p
            cases ek : (clean u && h2.all cleanO) with
            | true =>
              rw [ek, if_pos rfl] at p
              rw [Bool.and_eq_true] at ek
              intro ρ2 v2 H2 e2 c2 r2
              exact p ρ2 v2 H2 e2 (c2.down hgx ek.2) (Rl.down r2 ek.1)
            | false => rw [ek, if_neg Bool.false_ne_true] at p; exact p.elim
          | bk s2 h2 => rw [en] at p; exact p.elim
          | ct s2 h2 => rw [en] at p; exact p.elim
          | ex c2 f2 s2 h2 => rw [en] at p; exact p.elim
          | stuck => rw [en] at p; exact p.elim
theorem s_tryM {body : List Stmt} {h₀ : ExceptHandler} {hds : List ExceptHandler} {pos : Pos} {cvs : List Value} {hl : List Hm} (hgx : g.exn = none) (hs : X.stack = X.env :: X.outer) (hf : X.env.frame = some X.env.locals) (hN : X.N.Nodup) (tk : Takes X W)
    (hb : ∀ (W' : WX) (pn : List (Addr × Obj)) (xe : Value → Shared → Prop), Takes (X.tr pn xe) W' → PassesOwn (model X.prog X.w) X.A X.env xe → PSs (X.tr pn xe) body (TSm g W' M))
    (hh : HdM X g (h₀ :: hds) cvs hl) : PS X (.Try body (h₀ :: hds) [] [] pos) (TSm g W (sTryM M hl)) := by
  refine PS.im (ps_tryN (tb := fun W' => TSm g W' M) hs hf hN tk hb hh.hds) fun D σ H ⟨ρ, s, h, hr, cs, p⟩ => ?_
  refine ⟨ρ, s, h, hr, cs, ?_⟩
  unfold sTryM at p
  cases em : M s h with
  | ex c f s1 h1 =>
    rw [em] at p
    intro ρ' σ' H' e' c' r'
    exact hand_ok hgx hh p e' c' r'
  | nx s1 h1 => rw [em] at p; exact p
  | rt u h1 => rw [em] at p; exact p
  | bk s1 h1 => rw [em] at p; exact p
  | ct s1 h1 => rw [em] at p; exact p
  | stuck => rw [em] at p; exact p
end
end Vm

set_option Elab.async false
set_option linter.all false
set_option maxRecDepth 100000
set_option maxHeartbeats 4100000
namespace Vm
open L2 PyProof.Rows PySem PySem.Spec
/-! ### defs that show text: called where nothing is being shown -/
structure FnG (P : Program) (w : World) (K : PySem.W.Frag) (mg : Str → Option Value) (base : Heap) (k : Nat) (f : Addr) (fd : FuncData) (ps : List Str) (sp : Sp) : Prop where
  lenG : ∀ vs H Q E, sp vs H Q E → vs.length = ps.length
  runG : ∀ (A : Around) (outer : List Env) (s : Shared) (H : Hp) (args : Args) (us : List Value) (vs : List V) (Q : VK) (E : XK), A.guards = some [] → Room k A → Env0 P w K mg base A outer s H → BindsTo s fd args (ps.zip us) → Vals vs us → sp vs H Q E →
    codeAny (model P w) A (.call (.ref f) args) (CR (L2.CX P w) outer P w H s Q E) s
section
variable {X : Cx} {g : Gc} {E : WX} {L : Ml} {e : Expr} {es : List Expr} {pos : Pos}
theorem run_fnG {k : Nat} {f : Addr} {fd : FuncData} {ps : List Str} {sp : Sp} {EE : L2.St → XK} {pins : List (Addr × Obj)} {σ : L2.St} {H : Hp} {s : Shared} {Q : VK} {us : List Value} {vs : List V} (F : FnG X.prog X.w X.K X.mg X.base k f fd ps sp) (hG : X.A.guards = some []) (hr : Room k X.A) (hb : Binds X.K fd ps []) (lets : PassesAt (L2.CX X.prog X.w) X σ (EE σ))
    (I : Inv X pins σ H s) (rv : Vals vs us) (q : sp vs H Q (EE σ)) : wpAny (model X.prog X.w) X.A (call (.ref f) us) (EP X pins σ Q) X.xe s := by
  have many : us.length = ps.length := rv.length.symm.trans (F.lenG vs H Q (EE σ) q)
  have bound : BindsTo s fd ⟨us, []⟩ (ps.zip us) := by simpa using hb s us I.kIn (by simpa using many)
  have ran := F.runG X.A X.stack s H ⟨us, []⟩ us vs Q (EE σ) hG hr I.env0 bound rv q
  apply wpAny_call
  apply codeAny_mono ran
  rintro (e | fl) t y
  · exact lets pins H s e t I y
  · cases fl with
    | ret u => exact I.after y
    | _ => exact y.elim
theorem pe_callG {k : Nat} {f : Addr} {fd : FuncData} {ps : List Str} {sp : Sp} {EE : L2.St → XK} {t : TA} {x : Str} {p : Pos} (F : FnG X.prog X.w X.K X.mg X.base k f fd ps sp) (hG : X.A.guards = some []) (hr : Room k X.A) (hg : Gl X x) (hm : X.mg x = some (.ref f)) (hk : PySem.W.keepIn X.K (.ref f) = true) (hb : Binds X.K fd ps []) (lets : ∀ σ, PassesAt (L2.CX X.prog X.w) X σ (EE σ))
    (ha : PA X (e :: es) t) (hdb : (x == ("__debug__" : Str)) = false := by decide) (first : starEach (e :: es) X.env = (false, eval e X.env) :: starEach es X.env := by rfl) (plain : (backTo pos (starEach es X.env)).any (·.1) = false := by rfl) :
    PE X (.Call (.Name x p) (e :: es) [] pos) (tCallS sp EE t) := by
  constructor
  intro pins s σ H Q I q
  have args := ha.run pos pins s σ H (fun vs H1 => sp vs H1 Q (EE σ)) I q
  exact wpAny_Call_Name_kw (ld_glob I hg hm (PySem.W.callWith_K (h₀ := X.base) I.ok.mod.kin hk (thn args fun us t ⟨vs, H1, J, rv, y⟩ => ⟨J.kIn, run_fnG F hG hr hb (lets σ) J rv y⟩) first plain) hdb)
theorem e_callG {k : Nat} {f : Addr} {fd : FuncData} {ps : List Str} {n : Nat} {d : List U → Mh → R U} {x : Str} {p : Pos} (F : FnG X.prog X.w X.K X.mg X.base k f fd ps (spM g n d)) (hG : X.A.guards = some []) (hr : Room k X.A) (hg : Gl X x) (hm : X.mg x = some (.ref f)) (hk : PySem.W.keepIn X.K (.ref f) = true) (hb : Binds X.K fd ps []) (tk : Takes X E)
    (ha : PA X (e :: es) (TL g E L)) (hl : ∀ s h xs h', L s h = .ok xs h' → xs.length = n) (hdb : (x == ("__debug__" : Str)) = false := by decide) (first : starEach (e :: es) X.env = (false, eval e X.env) :: starEach es X.env := by rfl) (plain : (backTo pos (starEach es X.env)).any (·.1) = false := by rfl) :
    PE X (.Call (.Name x p) (e :: es) [] pos) (T g E (mCall d L)) := by
  refine PE.im (pe_callG F hG hr hg hm hk hb (fun σ => passAt tk σ) ha hdb first plain) fun σ H Q q => ?_
  obtain ⟨ρ, s, h, hs, cs, p⟩ := q
  refine ⟨ρ, s, h, hs, cs, ?_⟩
  cases el : L s h with
  | ok xs h1 =>
    unfold mCall at p
    rw [el] at p
    intro ρ1 vs H1 e1 c1 r1
    refine ⟨by rw [← Paired.length r1]; exact hl _ _ _ _ el, ρ1, xs, h1, r1, c1, Post.mono e1 p⟩
  | ex c f h1 =>
    unfold mCall at p
    rw [el] at p
    exact p
  | stuck =>
    unfold mCall at p
    rw [el] at p
    exact p.elim
end
/-- what the body of such a def keeps -/
def GBody (P : Program) (w : World) (K : PySem.W.Frag) (mg : Str → Option Value) (base : Heap) (g : Gc) (qual : Str) (st : Stmt) (N : List Str) (f : Addr) (k : Nat) (m : Ms) : Prop :=
  ∀ (cdv : Value) (A : Around) (outer : List Env) (s : Shared) (H : Hp) (E : XK), A.guards = some [] → Room k (A.deeper (envOfC qual (defScope st) s.heap.objs.size f cdv)) →
    (cxOf (L2.CX P w) P w K mg base N qual (defScope st) f cdv A outer s H E).A.units + 65 < cLine →
    PassesOwn (model P w) (cxOf (L2.CX P w) P w K mg base N qual (defScope st) f cdv A outer s H E).A (cxOf (L2.CX P w) P w K mg base N qual (defScope st) f cdv A outer s H E).env (cxOf (L2.CX P w) P w K mg base N qual (defScope st) f cdv A outer s H E).xe →
    Takes (cxOf (L2.CX P w) P w K mg base N qual (defScope st) f cdv A outer s H E) (fun cls d _ H => E cls d H) →
    PSs (cxOf (L2.CX P w) P w K mg base N qual (defScope st) f cdv A outer s H E) (defBody st) (TSm g (fun cls d _ H => E cls d H) m)
section
variable {P : Program} {w : World} {K : PySem.W.Frag} {mg : Str → Option Value} {base : Heap} {g : Gc} {x qual : Str} {st : Stmt} {f : Addr} {fd : FuncData} {N ps : List Str} {k : Nat} {m : Ms}
theorem fn_okG {d : List U → Mh → R U} (rr : ∀ {n : Nat} {vs : List V} {H : Hp} {Q : VK} {E : XK}, spM g n d vs H Q E → TSm g (fun cls d _ H => E cls d H) m { nx := fun _ H' => Q .non H', rt := Q } (L2.start N vs) H) (F : Fun K x qual st f fd) (S : FnScope N ps (defScope st)) (body : GBody P w K mg base g qual st N f k m) :
    FnG P w K mg base (k + 1) f fd ps (spM g ps.length d) :=
  ⟨fun vs H Q E q => q.1, fun A outer s H args us vs Q E hG hr e0 hb r q => fn_at F S hr e0 hb r q.1 fun cdv hr' =>
    ⟨_, body cdv A outer s H E hG hr' (by have := hr'.un; show (A.deeper (envOfC qual (defScope st) s.heap.objs.size f cdv)).units + 65 < cLine; omega) (passes_of rfl) (takes_of rfl rfl rfl rfl), rr q⟩⟩
theorem fn_okPG (hg : g.exn = none) (F : Fun K x qual st f fd) (S : FnScope N ps (defScope st)) (body : GBody P w K mg base g qual st N f k m) : FnG P w K mg base (k + 1) f fd ps (spM g ps.length (runP (pfn N.length m))) :=
  fn_okG (fun q => run_readP hg q) F S body
theorem fn_okMG (hg : g.exn = none) (F : Fun K x qual st f fd) (S : FnScope N ps (defScope st)) (body : GBody P w K mg base g qual st N f k m) : FnG P w K mg base (k + 1) f fd ps (spM g ps.length (runM (pmf N.length m))) :=
  fn_okG (fun q => run_readM hg q) F S body
end
/-! ### x in an instance of an own class that says so itself -/
def rOwnIn (ng : Bool) (C : Addr) (sp : Sp) : R2 := fun x y H Q => ∃ a dx fs, y = .ref a ∧ H a = some (.ins C dx fs) ∧ sp [.ref a, x] H (fun v H1 => ∃ b, v = .bl b ∧ Q (.bl (if ng then !b else b)) H1) (fun _ _ _ => False)
section
variable {X : Cx} {g : Gc} {k : Nat} {C fm : Addr} {fd : FuncData} {ps : List Str} {sp : Sp}
theorem contains_own {pins : List (Addr × Obj)} {σ : L2.St} {H : Hp} {s : Shared} {x : V} {u : Value} {a dx : Addr} {fs : List (Str × V)} {Q : Bool → Shared → Prop} {R : Bool → Hp → Prop} (hm : Meth X.K C "__contains__" fm) (F : FnOk X.prog X.w X.K X.mg X.base (L2.CX X.prog X.w) k fm fd ps sp) (hr : Room k X.A) (hb : Binds X.K fd ps []) (hx : ∀ σ, PassesAt (L2.CX X.prog X.w) X σ (fun _ _ _ => False))
    (I : Inv X pins σ H s) (rx : RelV x u) (ea : H a = some (.ins C dx fs)) (h : sp [.ref a, x] H (fun v H1 => ∃ b, v = .bl b ∧ R b H1) (fun _ _ _ => False)) (hq : ∀ b H1 s1, Inv X pins σ H1 s1 → R b H1 → Q b s1) :
    wpAny (model X.prog X.w) X.A (contains (.ref a) u) Q X.xe s := by
  have ⟨mA, whole, _⟩ := ins_get I.hok ea
  obtain ⟨od, J, hl⟩ := whole.look
  have sp1 : ∀ {A : Around} {Q' : Option Value → Shared → Prop} {E : Value → Shared → Prop}, Q' (some (.ref fm)) s → wpAny (model X.prog X.w) A (specialOf (.ref a) "__contains__") Q' E s := fun {A Q' E} q => by
    unfold specialOf
    exact wpAny_bind (J.type.here ((PySem.W.looks_findIn I.kIn hm.at_).here (by first | exact q | exact wpAny_pure q)))
  unfold contains
  refine wpAny_holding ?_
  show wpAny _ _ (do
    if (← specialOf (.ref a) "__contains__") == some .none then
      rule "in.none"; raiseError "TypeError" s!"'{← typeNameOf (.ref a)}' object is not a container"
    match ← callSpecialUnlessNone? (.ref a) "__contains__" [u] (do rule "in.none"; raiseError "TypeError" s!"'{← typeNameOf (.ref a)}' object is not a container") with
    | some r => truthy r
    | none => _) _ _ _
  refine wpAny_bind (sp1 ?_)
  rw [if_neg (by intro z; cases z)]
  refine wpAny_bind ?_
  unfold callSpecialUnlessNone?
  refine wpAny_bind (sp1 ?_)
  refine wpAny_holding (wpAny_bind ((PySem.W.bind_fn I.kIn (.ref a) (beq_iff_eq.mp hm.fn)).here ?_))
  show wpAny _ _ (if (Value.ref fm == Value.none) = true then _ else _) _ _ _
  rw [if_neg (by intro z; cases z)]
  refine wpAny_bind (wpAny_mono (run_fnS (us := [.ref a, u]) (vs := [.ref a, x]) (E := fun _ _ _ _ => False) F hr hb (hx σ) I (.cons rfl (.cons rx .nil)) h) (fun v s1 hv => ?_) fun _ _ z => z)
  obtain ⟨v', H1, I1, rv, b, rfl, q⟩ := hv
  obtain rfl : v = Value.bool b := rv
  exact wpAny_pure (wpAny_truthy_bool (hq b H1 s1 I1 q))
theorem o_inOwn (hm : Meth X.K C "__contains__" fm) (F : FnOk X.prog X.w X.K X.mg X.base (L2.CX X.prog X.w) k fm fd ps sp) (hr : Room k X.A) (hb : Binds X.K fd ps []) : OpR X (compareOp .In) (rOwnIn false C sp) := by
  intro pins t σ H x y v u Q I rx ry ⟨a, dx, fs, ey, ea, h⟩
  subst ey
  cases (show u = .ref a from ry)
  show wpAny _ _ (do return Value.bool (← contains (.ref a) v) : Sem Value) _ _ _
  exact wpAny_bind (contains_own (R := fun b H1 => Q (.bl b) H1) hm F hr hb (fun σ pins H s e s1 I c => passL pins σ H s e s1 I c) I rx ea h fun b H1 s1 I1 q => wpAny_pure ⟨.bl b, H1, I1, rfl, q⟩)
theorem o_notinOwn (hm : Meth X.K C "__contains__" fm) (F : FnOk X.prog X.w X.K X.mg X.base (L2.CX X.prog X.w) k fm fd ps sp) (hr : Room k X.A) (hb : Binds X.K fd ps []) : OpR X (compareOp .NotIn) (rOwnIn true C sp) := by
  intro pins t σ H x y v u Q I rx ry ⟨a, dx, fs, ey, ea, h⟩
  subst ey
  cases (show u = .ref a from ry)
  show wpAny _ _ (do return Value.bool (!(← contains (.ref a) v)) : Sem Value) _ _ _
  exact wpAny_bind (contains_own (R := fun b H1 => Q (.bl (!b)) H1) hm F hr hb (fun σ pins H s e s1 I c => passL pins σ H s e s1 I c) I rx ea h fun b H1 s1 I1 q => wpAny_pure ⟨.bl !b, H1, I1, rfl, q⟩)
def fInOwn (ng : Bool) (c : Nat) (d : List U → Mh → R U) : F2 := fun x y h => match insD c y h with
  | some _ => match d [y, x] h with
    | .ok (.bl b) h1 => .ok (.bl (if ng then !b else b)) h1
    | _ => .stuck
  | none => .stuck
theorem s_inOwn {ng : Bool} {c : Nat} {d : List U → Mh → R U} : S2 g (fInOwn ng c d) (rOwnIn ng (g.cl c) (spM g 2 d)) := fun E ρ x y vx vy h H Q rx ry cs p => by
  unfold fInOwn at p
  cases ei : insD c y h with
  | none => rw [ei] at p; exact p.elim
  | some fs =>
    rw [ei] at p
    simp only at p
    obtain ⟨a, dx, gs, rfl, rf, qa⟩ := insD_ok cs ry ei
    refine ⟨a, dx, gs, rfl, qa, rfl, ρ, [y, x], h, .cons ry (.cons rx .nil), cs, ?_⟩
    cases ed : d [y, x] h with
    | ok u h1 =>
      rw [ed] at p
      cases u with
      | bl b => exact fun ρ1 v H1 e1 c1 r1 => ⟨b, r1, p ρ1 _ H1 e1 c1 rfl⟩
      | _ => exact p.elim
    | ex cc ff h1 => rw [ed] at p; exact p.elim
    | stuck => rw [ed] at p; exact p.elim
end
/-! ### the caught exception's field, by the clause's class -/
theorem tk_eq {n i c : Nat} (h0 : i ≠ 0) (ht : tk0 n (fun c => c == i || i == 0) c = some true) : c = i := by
  unfold tk0 at ht
  split at ht
  · simp only [Option.some.injEq, Bool.or_eq_true, beq_iff_eq] at ht
    rcases ht with h | h
    · exact h
    · exact absurd h h0
  · cases ht
theorem e_xfT {X : Cx} {g : Gc} {W : WX} {A : Me} {e : Expr} {pos : Pos} {a : Addr} {oe : Obj} {c i m : Nat} {dd : Addr} {f : List (Str × U)} {pn : List (Addr × Obj)} {n : Str} (h0 : i ≠ 0) (ht : tk0 m (fun c => c == i || i == 0) c = some true) (T : XfC X.K (g.cl i)) (hno : PySem.W.findIn X.K (.ref (g.cl i)) n = some none)
    (hz : Zc (.ref (g.cl c)) (some dd) oe) (hf : ∃ vs, oe.data = .fields vs) (he : PE (X.suite a ((a, oe) :: pn)) e (Vm.T (g.at a dd f) W A)) (hb : attributeBase e n X.env (eval e X.env) = eval e X.env := by rfl) :
    PE (X.suite a ((a, oe) :: pn)) (.Attribute e n pos) (Vm.T (g.at a dd f) W (mXf f n A)) := by
  have ec := tk_eq h0 ht
  subst ec
  exact e_xf T hno hz hf he hb
end Vm

set_option Elab.async false
set_option linter.all false
set_option maxRecDepth 100000
set_option maxHeartbeats 4100000
namespace Vm
open L2 PyProof.Rows PySem PySem.Spec
/-! ### a text, several times over -/
def strRep (z : Str) (n : Nat) : Str := ⟨(List.replicate n z.cps).foldl (· ++ ·) #[]⟩
def rRepS : R2 := fun x y H Q => ∃ (z : Str) (k : Int), x = .str z ∧ y = .int k ∧ 2 ≤ k ∧ k ≤ 1000 ∧ 1 ≤ z.length ∧ z.length * k.toNat ≤ 100000 ∧ (strRep z k.toNat).length ≤ 100000 ∧ Q (.str (strRep z k.toNat)) H
section
variable {X : Cx} {g : Gc}
theorem op_repS : OpR X (binaryOp .Mult) rRepS := by
  intro pins st σ H x y v u Q I rx ry ⟨z, k, ex, ey, h2, h3, h4, h5, h6, q⟩
  subst ex ey
  obtain ⟨t, rfl⟩ := rx
  obtain ⟨t', rfl⟩ := ry
  have n1 : ¬ k < 1 := by omega
  have zl : z.length ≤ 100000 := by
    have : z.length * 1 ≤ z.length * k.toNat := Nat.mul_le_mul (Nat.le_refl _) (by omega)
    omega
  have e1 : (k == 1 || z.length == 0) = false := by
    rw [Bool.or_eq_false_iff]
    exact ⟨beq_eq_false_iff_ne.mpr (by omega), beq_eq_false_iff_ne.mpr (by omega)⟩
  have hd : (100000 : Int) ≤ (2 ^ 63 - 1) / k := by
    rw [Int.le_ediv_iff_mul_le (by omega)]
    omega
  refine P.mul_str ?_ (fun _ _ => by omega) (fun _ _ => decide_eq_false (Nat.not_lt.mpr (big_line h5))) ?_
  · rw [Bool.or_eq_false_iff]
    exact ⟨decide_eq_false (by omega), decide_eq_false (by omega)⟩
  · rw [if_neg n1, if_neg (by rw [e1]; exact Bool.false_ne_true)]
    exact ⟨big_line h6, .str (strRep z k.toNat), H, I.tok _, ⟨_, rfl⟩, q⟩
abbrev rMulS (K : PySem.W.Frag) : R2 := fun x y H Q => rMulE K x y H Q ∨ rRepS x y H Q
theorem o_mulS : OpR X (binaryOp .Mult) (rMulS X.K) := OpR.or o_mulE op_repS
def fMulS : F2 := fun x y h => match x, y with
  | .str z, .int k => if decide (2 ≤ k ∧ k ≤ 1000 ∧ 1 ≤ z.length ∧ z.length * k.toNat ≤ 100000 ∧ (strRep z k.toNat).length ≤ 100000) then .ok (.str (strRep z k.toNat)) h else .stuck
  | _, _ => fMulE x y h
theorem s_mulS {K : PySem.W.Frag} (hK : K = g.K := by assumption) : S2 g fMulS (rMulS K) := fun E ρ x y vx vy h H Q rx ry cs p => by
  unfold fMulS at p
  split at p
  · rename_i z k
    split at p
    · rename_i c
      simp only [decide_eq_true_eq] at c
      exact .inr ⟨z, k, rx, ry, c.1, c.2.1, c.2.2.1, c.2.2.2.1, c.2.2.2.2, Post.here (rel := Rl g) p cs rfl⟩
    · exact p.elim
  · exact .inl (s_mulE hK E ρ x y vx vy h H Q rx ry cs p)
end
end Vm

set_option Elab.async false
set_option linter.all false
set_option maxRecDepth 100000
set_option maxHeartbeats 4100000
namespace Law
open PySem PySem.Spec PyProof.Rows L2 Vm

theorem len1 {L : Ml} {n : Nat} (h : ∀ s h xs h', L s h = .ok xs h' → xs.length = n) : ∀ s h xs h', L s h = .ok xs h' → xs.length + 1 = n + 1 := fun s hh xs h' e => congrArg (· + 1) (h s hh xs h' e)
def topS (i : Nat) : Stmt := PySem.Challenge.pw_unlikehands_k02_staffs_refused.main.body.getD i (.Pass ⟨0, 0, 0, 0⟩)
abbrev st_law_told : Stmt := topS 26
abbrev N_law_told : List Str := ["steps", "people", "name", "group", "some", "step"]
def m_law_told (B_ns : List Int) : Ms := sRet (mLcF (wSeq (mV 1)) (gtD 3 (gtCons (gtN 2) (gtCons (gtN 3) (gtCons (gtN 4) (gtNil))))) (bYes) (mTd (lC (mV 2) (lC (mV 3) (lC (mBt (fTupD) (lC (mLcF (wSeq (mV 0)) (gtN 5) (bV (m2 fIn (mV 5) (mV 4))) (mV 5) [5]) (lN))) (lN))))) [2, 3, 4])
def p_law_told (B_ns : List Int) : List U → P0 := pfn 6 (m_law_told B_ns)
def d_law_told (B_ns : List Int) : List U → Mh → R U := runP (p_law_told B_ns)
abbrev st_left_to : Stmt := topS 19
abbrev N_left_to : List Str := ["step", "keeper", "person", "name", "group", "able", "each"]
def m_left_to (B_ns : List Int) : Ms := sSeq (sAsg (mV 2) (gtD 3 (gtCons (gtN 3) (gtCons (gtN 4) (gtCons (gtN 5) (gtNil))))))
    (sSeq (sIf (bV (m2 fEq (mV 3) (mV 1))) (sRet (mV 2)) (sPass))
    (sRet (mTd (lC (mV 3) (lC (mV 4) (lC (mBt (fTupD) (lC (mLcF (wSeq (mV 5)) (gtN 6) (bV (m2 fNe (mV 6) (mV 0))) (mV 6) [6]) (lN))) (lN)))))))
def p_left_to (B_ns : List Int) : List U → P0 := pfn 7 (m_left_to B_ns)
def d_left_to (B_ns : List Int) : List U → Mh → R U := runP (p_left_to B_ns)
abbrev st_in_order : Stmt := topS 18
abbrev N_in_order : List Str := ["steps", "person", "name", "group", "able", "step"]
def m_in_order (B_ns : List Int) : Ms := sSeq (sAsg (mV 1) (gtD 3 (gtCons (gtN 2) (gtCons (gtN 3) (gtCons (gtN 4) (gtNil))))))
    (sRet (mTd (lC (mV 2) (lC (mV 3) (lC (mBt (fTupD) (lC (mLcF (wSeq (mV 0)) (gtN 5) (bV (m2 fIn (mV 5) (mV 4))) (mV 5) [5]) (lN))) (lN))))))
def p_in_order (B_ns : List Int) : List U → P0 := pfn 6 (m_in_order B_ns)
def d_in_order (B_ns : List Int) : List U → Mh → R U := runP (p_in_order B_ns)
abbrev st_p_are_unlike_steps : Stmt := topS 14
abbrev N_p_are_unlike_steps : List Str := ["steps", "value", "at", "step"]
def m_p_are_unlike_steps (B_ns : List Int) : Ms := sSeq (sIf (bOr (bNot (bV (m1 (fIsi "tuple") (mV 1)))) (bV (m2 fGt (mBt (fLenD B_ns) (lC (mV 1) (lN))) (mBt (fLenD B_ns) (lC (mV 0) (lN)))))) (sRet (mC (.bl false))) (sPass))
    (sRet (mBt (fAllD) (lC (mLcF (wEnum (lC (mV 1) (lN))) (gtD 2 (gtCons (gtN 2) (gtCons (gtN 3) (gtNil)))) (bYes) (mAndV (m2 fIn (mV 3) (mV 0)) (m2 fNotIn (mV 3) (mSlD (mV 1) (oN) (oS (mV 2))))) [2, 3]) (lN))))
def p_p_are_unlike_steps (B_ns : List Int) : List U → P0 := pfn 4 (m_p_are_unlike_steps B_ns)
def d_p_are_unlike_steps (B_ns : List Int) : List U → Mh → R U := runP (p_p_are_unlike_steps B_ns)
abbrev st_p_is_name : Stmt := topS 13
abbrev N_p_is_name : List Str := ["value", "letter"]
def m_p_is_name (B_ns : List Int) : Ms := sSeq (sIf (bOr (bNot (bV (m1 (fIsi "str") (mV 0)))) (bNot (bV (mChain fLe fLe (mC (.int 1)) (mBt (fLenD B_ns) (lC (mV 0) (lN))) (mC (.int 8)))))) (sRet (mC (.bl false))) (sPass))
    (sRet (mBt (fAllD) (lC (mLcF (wStr (mV 0)) (gtN 1) (bYes) (mChain fLeS fLeS (mC (.str "a")) (mV 1) (mC (.str "z"))) [1]) (lN))))
def p_p_is_name (B_ns : List Int) : List U → P0 := pfn 2 (m_p_is_name B_ns)
def d_p_is_name (B_ns : List Int) : List U → Mh → R U := runP (p_p_is_name B_ns)
abbrev st_p_is_person : Stmt := topS 15
abbrev N_p_is_person : List Str := ["steps", "value", "name", "group", "able"]
def m_p_is_person (B_ns : List Int) : Ms := sSeq (sIf (bOr (bNot (bV (m1 (fIsi "tuple") (mV 1)))) (bV (m2 fNe (mBt (fLenD B_ns) (lC (mV 1) (lN))) (mC (.int 3))))) (sRet (mC (.bl false))) (sPass))
    (sSeq (sAsg (mV 1) (gtD 3 (gtCons (gtN 2) (gtCons (gtN 3) (gtCons (gtN 4) (gtNil))))))
    (sRet (mAndV (mCall (d_p_is_name B_ns)  (lC (mV 2) (lN))) (mAndV (mCall (d_p_is_name B_ns)  (lC (mV 3) (lN))) (mCall (d_p_are_unlike_steps B_ns)  (lC (mV 0) (lC (mV 4) (lN))))))))
def p_p_is_person (B_ns : List Int) : List U → P0 := pfn 5 (m_p_is_person B_ns)
def d_p_is_person (B_ns : List Int) : List U → Mh → R U := runP (p_p_is_person B_ns)
abbrev st_check_people : Stmt := topS 17
abbrev N_check_people : List Str := ["steps", "people", "names", "number", "person"]
def m_check_people (B_ns : List Int) : Ms := sSeq (sIf (bNot (bV (m1 (fIsi "list") (mV 1)))) (sRaise0 1) (sPass))
    (sSeq (sAsg (mL (lN)) (gtN 2))
    (sSeq (sForF (wEnum (lC (mSlD (mV 1) (oN) (oS (mC (.int 8)))) (lN))) (gtD 2 (gtCons (gtN 3) (gtCons (gtN 4) (gtNil)))) (sSeq (sIf (bOr (bNot (bV (mCall (d_p_is_person B_ns)  (lC (mV 0) (lC (mV 4) (lN)))))) (bV (m2 fIn (m2 (fIxD B_ns) (mV 4) (mC (.int 0))) (mV 2)))) (sRaise1 4 "number" (mV 3)) (sPass))
    (sE (mMtL fAppend (mV 2) (lC (m2 (fIxD B_ns) (mV 4) (mC (.int 0))) (lN))))))
    (sIf (bV (m2 fGt (mBt (fLenD B_ns) (lC (mV 1) (lN))) (mC (.int 8)))) (sRaise0 2) (sPass))))
def p_check_people (B_ns : List Int) : List U → P0 := pfn 5 (m_check_people B_ns)
def d_check_people (B_ns : List Int) : List U → Mh → R U := runP (p_check_people B_ns)
abbrev st_check_steps : Stmt := topS 16
abbrev N_check_steps : List Str := ["steps", "number", "step"]
def m_check_steps (B_ns : List Int) : Ms := sSeq (sIf (bNot (bV (m1 (fIsi "list") (mV 0)))) (sRaise0 1) (sPass))
    (sSeq (sForF (wEnum (lC (mSlD (mV 0) (oN) (oS (mC (.int 6)))) (lN))) (gtD 2 (gtCons (gtN 1) (gtCons (gtN 2) (gtNil)))) (sIf (bOr (bNot (bV (mCall (d_p_is_name B_ns)  (lC (mV 2) (lN))))) (bV (m2 fIn (mV 2) (mSlD (mV 0) (oN) (oS (mV 1)))))) (sRaise1 3 "number" (mV 1)) (sPass)))
    (sIf (bNot (bV (mChain fLe fLe (mC (.int 1)) (mBt (fLenD B_ns) (lC (mV 0) (lN))) (mC (.int 6))))) (sRaise0 2) (sPass)))
def p_check_steps (B_ns : List Int) : List U → P0 := pfn 3 (m_check_steps B_ns)
def d_check_steps (B_ns : List Int) : List U → Mh → R U := runP (p_check_steps B_ns)
abbrev st_p_Staff___init__ : Stmt := inClass (topS 20) 0
abbrev N_p_Staff___init__ : List Str := ["self", "steps", "people", "person"]
def m_p_Staff___init__ (B_ns : List Int) : Ms := sSeq (sE (mCall (d_check_steps B_ns)  (lC (mV 1) (lN))))
    (sSeq (sE (mCall (d_check_people B_ns)  (lC (mV 1) (lC (mV 2) (lN)))))
    (sSeq (sFldM 7 "_steps" (mV 0) (mBt (fLstD) (lC (mV 1) (lN))))
    (sFldM 7 "_people" (mV 0) (mLcF (wSeq (mV 2)) (gtN 3) (bYes) (mCall (d_in_order B_ns)  (lC (mV 1) (lC (mV 3) (lN)))) [3]))))
def p_p_Staff___init__ (B_ns : List Int) : O → List U → PM := pmf 4 (m_p_Staff___init__ B_ns)
def d_p_Staff___init__ (B_ns : List Int) : List U → Mh → R U := runM (p_p_Staff___init__ B_ns)
abbrev st_p_Staff_names : Stmt := inClass (topS 20) 2
abbrev N_p_Staff_names : List Str := ["self", "person"]
def m_p_Staff_names (B_ns : List Int) : Ms := sRet (mLcF (wSeq (mFldD 7 "_people" (mV 0))) (gtN 1) (bYes) (m2 (fIxD B_ns) (mV 1) (mC (.int 0))) [1])
def p_p_Staff_names (B_ns : List Int) : List U → P0 := pfn 2 (m_p_Staff_names B_ns)
def d_p_Staff_names (B_ns : List Int) : List U → Mh → R U := runP (p_p_Staff_names B_ns)
abbrev st_p_Staff___contains__ : Stmt := inClass (topS 20) 11
abbrev N_p_Staff___contains__ : List Str := ["self", "name"]
def m_p_Staff___contains__ (B_ns : List Int) : Ms := sRet (m2 fIn (mV 1) (mPropD 7 (d_p_Staff_names B_ns)  (mV 0)))
def p_p_Staff___contains__ (B_ns : List Int) : List U → P0 := pfn 2 (m_p_Staff___contains__ B_ns)
def d_p_Staff___contains__ (B_ns : List Int) : List U → Mh → R U := runP (p_p_Staff___contains__ B_ns)
abbrev st_p_Staff_only : Stmt := inClass (topS 20) 10
abbrev N_p_Staff_only : List Str := ["self", "step", "name", "person"]
def m_p_Staff_only (B_ns : List Int) : Ms := sSeq (sIf (bV (m2 fNotIn (mV 1) (mFldD 7 "_steps" (mV 0)))) (sRaise1 5 "name" (mV 1)) (sPass))
    (sSeq (sIf (bV (m2 (fInOwn true 7 (d_p_Staff___contains__ B_ns) ) (mV 2) (mV 0))) (sRaise1 6 "name" (mV 2)) (sPass))
    (sRet (mMakeD 7 (p_p_Staff___init__ B_ns)  (lC (mFldD 7 "_steps" (mV 0)) (lC (mLcF (wSeq (mFldD 7 "_people" (mV 0))) (gtN 3) (bYes) (mCall (d_left_to B_ns)  (lC (mV 1) (lC (mV 2) (lC (mV 3) (lN))))) [3]) (lN))))))
def p_p_Staff_only (B_ns : List Int) : List U → P0 := pfn 4 (m_p_Staff_only B_ns)
def d_p_Staff_only (B_ns : List Int) : List U → Mh → R U := runP (p_p_Staff_only B_ns)
abbrev st_p_Staff_without : Stmt := inClass (topS 20) 9
abbrev N_p_Staff_without : List Str := ["self", "names", "name", "person"]
def m_p_Staff_without (B_ns : List Int) : Ms := sSeq (sIf (bNot (bV (m1 (fIsi "list") (mV 1)))) (sRaise0 1) (sPass))
    (sSeq (sForF (wSeq (mV 1)) (gtN 2) (sIf (bV (m2 (fInOwn true 7 (d_p_Staff___contains__ B_ns) ) (mV 2) (mV 0))) (sRaise1 6 "name" (mV 2)) (sPass)))
    (sRet (mMakeD 7 (p_p_Staff___init__ B_ns)  (lC (mFldD 7 "_steps" (mV 0)) (lC (mLcF (wSeq (mFldD 7 "_people" (mV 0))) (gtN 3) (bV (m2 fNotIn (m2 (fIxD B_ns) (mV 3) (mC (.int 0))) (mV 1))) (mV 3) [3]) (lN))))))
def p_p_Staff_without (B_ns : List Int) : List U → P0 := pfn 4 (m_p_Staff_without B_ns)
def d_p_Staff_without (B_ns : List Int) : List U → Mh → R U := runP (p_p_Staff_without B_ns)
abbrev st_p_Staff_able : Stmt := inClass (topS 20) 7
abbrev N_p_Staff_able : List Str := ["self", "step", "person"]
def m_p_Staff_able (B_ns : List Int) : Ms := sSeq (sIf (bV (m2 fNotIn (mV 1) (mFldD 7 "_steps" (mV 0)))) (sRaise1 5 "name" (mV 1)) (sPass))
    (sRet (mLcF (wSeq (mFldD 7 "_people" (mV 0))) (gtN 2) (bV (m2 fIn (mV 1) (m2 (fIxD B_ns) (mV 2) (mC (.int 2))))) (m2 (fIxD B_ns) (mV 2) (mC (.int 0))) [2]))
def p_p_Staff_able (B_ns : List Int) : List U → P0 := pfn 3 (m_p_Staff_able B_ns)
def d_p_Staff_able (B_ns : List Int) : List U → Mh → R U := runP (p_p_Staff_able B_ns)
abbrev st_p_Staff__person : Stmt := inClass (topS 20) 4
abbrev N_p_Staff__person : List Str := ["self", "name", "person"]
def m_p_Staff__person (B_ns : List Int) : Ms := sSeq (sForF (wSeq (mFldD 7 "_people" (mV 0))) (gtN 2) (sIf (bV (m2 fEq (m2 (fIxD B_ns) (mV 2) (mC (.int 0))) (mV 1))) (sRet (mV 2)) (sPass)))
    (sRaise1 6 "name" (mV 1))
def p_p_Staff__person (B_ns : List Int) : List U → P0 := pfn 3 (m_p_Staff__person B_ns)
def d_p_Staff__person (B_ns : List Int) : List U → Mh → R U := runP (p_p_Staff__person B_ns)
abbrev st_p_Staff_list_of : Stmt := inClass (topS 20) 6
abbrev N_p_Staff_list_of : List Str := ["self", "name"]
def m_p_Staff_list_of (B_ns : List Int) : Ms := sRet (m2 (fIxD B_ns) (mMethD 7 "_person" (d_p_Staff__person B_ns)  (mV 0) (lC (mV 1) (lN))) (mC (.int 2)))
def p_p_Staff_list_of (B_ns : List Int) : List U → P0 := pfn 2 (m_p_Staff_list_of B_ns)
def d_p_Staff_list_of (B_ns : List Int) : List U → Mh → R U := runP (p_p_Staff_list_of B_ns)
abbrev st_p_Staff_group : Stmt := inClass (topS 20) 5
abbrev N_p_Staff_group : List Str := ["self", "name"]
def m_p_Staff_group (B_ns : List Int) : Ms := sRet (m2 (fIxD B_ns) (mMethD 7 "_person" (d_p_Staff__person B_ns)  (mV 0) (lC (mV 1) (lN))) (mC (.int 1)))
def p_p_Staff_group (B_ns : List Int) : List U → P0 := pfn 2 (m_p_Staff_group B_ns)
def d_p_Staff_group (B_ns : List Int) : List U → Mh → R U := runP (p_p_Staff_group B_ns)
abbrev st_law_asked : Stmt := topS 28
abbrev N_law_asked : List Str := ["staff", "nth", "value", "other", "e"]
def m_law_asked (B_ns : List Int) : Ms := sSeq (sTryM (sSeq (sIf (bV (m2 fEq (mV 1) (mC (.int 0)))) (sE (mMethD 7 "group" (d_p_Staff_group B_ns)  (mV 0) (lC (mV 2) (lN)))) (sPass))
    (sSeq (sIf (bV (m2 fEq (mV 1) (mC (.int 1)))) (sE (mMethD 7 "list_of" (d_p_Staff_list_of B_ns)  (mV 0) (lC (mV 2) (lN)))) (sPass))
    (sSeq (sIf (bV (m2 fEq (mV 1) (mC (.int 2)))) (sE (mMethD 7 "able" (d_p_Staff_able B_ns)  (mV 0) (lC (mV 2) (lN)))) (sPass))
    (sSeq (sIf (bV (m2 fEq (mV 1) (mC (.int 3)))) (sE (mMethD 7 "without" (d_p_Staff_without B_ns)  (mV 0) (lC (mV 2) (lN)))) (sPass))
    (sIf (bV (m2 fEq (mV 1) (mC (.int 4)))) (sE (mMethD 7 "only" (d_p_Staff_only B_ns)  (mV 0) (lC (mV 2) (lC (mV 3) (lN))))) (sPass)))))) [⟨tk0 7 fun c => c == 1 || 1 == 0, none, fun _ _ => sRet (mTd (lC (mC (.str "list")) (lC (mC (.str "")) (lN))))⟩,
    ⟨tk0 7 fun c => c == 6 || 6 == 0, some 4, fun c f => sRet (mTd (lC (mC (.str "person")) (lC (mBt (fRepr) (lC (mXf f "name" (mV 4)) (lN))) (lN))))⟩,
    ⟨tk0 7 fun c => c == 5 || 5 == 0, some 4, fun c f => sRet (mTd (lC (mC (.str "step")) (lC (mBt (fRepr) (lC (mXf f "name" (mV 4)) (lN))) (lN))))⟩])
    (sRet (mC .non))
def p_law_asked (B_ns : List Int) : List U → P0 := pfn 5 (m_law_asked B_ns)
def d_law_asked (B_ns : List Int) : List U → Mh → R U := runP (p_law_asked B_ns)
abbrev st_law_made : Stmt := topS 27
abbrev N_law_made : List Str := ["steps", "people", "e"]
def m_law_made (B_ns : List Int) : Ms := sSeq (sTryM (sE (mMakeD 7 (p_p_Staff___init__ B_ns)  (lC (mV 0) (lC (mV 1) (lN))))) [⟨tk0 7 fun c => c == 1 || 1 == 0, none, fun _ _ => sRet (mTd (lC (mC (.str "list")) (lC (mC (.int 0)) (lN))))⟩,
    ⟨tk0 7 fun c => c == 3 || 3 == 0, some 2, fun c f => sRet (mTd (lC (mC (.str "step")) (lC (mXf f "number" (mV 2)) (lN))))⟩,
    ⟨tk0 7 fun c => c == 2 || 2 == 0, none, fun _ _ => sRet (mTd (lC (mC (.str "count")) (lC (mC (.int 0)) (lN))))⟩,
    ⟨tk0 7 fun c => c == 4 || 4 == 0, some 2, fun c f => sRet (mTd (lC (mC (.str "person")) (lC (mXf f "number" (mV 2)) (lN))))⟩])
    (sRet (mC .non))
def p_law_made (B_ns : List Int) : List U → P0 := pfn 3 (m_law_made B_ns)
def d_law_made (B_ns : List Int) : List U → Mh → R U := runP (p_law_made B_ns)
abbrev st_law_odd_people : Stmt := topS 29
abbrev N_law_odd_people : List Str := ["steps", "name", "odd", "some", "step"]
def m_law_odd_people (B_ns : List Int) : Ms := sSeq (sPar 3 4 (lC (mBt (fTupD) (lC (mV 0) (lN))) (lC (m2 (fIxD B_ns) (mV 0) (mC (.int 0))) (lN))))
    (sSeq (sAsg (mLd (lC (mC .non) (lC (mTd (lN)) (lC (mTd (lC (mV 1) (lN))) (lC (mTd (lC (mV 1) (lC (mC (.str "red")) (lN)))) (lC (mTd (lC (mV 1) (lC (mC (.str "red")) (lC (mV 3) (lC (mC (.int 0)) (lN)))))) (lC (mLd (lC (mV 1) (lC (mC (.str "red")) (lC (mV 3) (lN))))) (lN)))))))) (gtN 2))
    (sSeq (sAsg (m2 fAddD (mV 2) (mLd (lC (mTd (lC (mC (.str "")) (lC (mC (.str "red")) (lC (mV 3) (lN))))) (lC (mC (.int 0)) (lN))))) (gtN 2))
    (sSeq (sAsg (m2 fAddD (mV 2) (mLd (lC (mTd (lC (mC (.str "Q")) (lC (mC (.str "red")) (lC (mV 3) (lN))))) (lC (mTd (lC (mV 1) (lC (mC (.str "")) (lC (mV 3) (lN))))) (lC (mTd (lC (mV 1) (lC (mC (.str "Red")) (lC (mV 3) (lN))))) (lN)))))) (gtN 2))
    (sSeq (sAsg (m2 fAddD (mV 2) (mLd (lC (mTd (lC (mV 1) (lC (mC (.str "red")) (lC (mBt (fLstD) (lC (mV 3) (lN))) (lN))))) (lC (mTd (lC (mV 1) (lC (mC (.str "red")) (lC (mC .non) (lN))))) (lN))))) (gtN 2))
    (sSeq (sAsg (m2 fAddD (mV 2) (mLd (lC (mTd (lC (mV 1) (lC (mC (.str "red")) (lC (mTd (lC (mV 4) (lC (mV 4) (lN)))) (lN))))) (lC (mTd (lC (mV 1) (lC (mC (.str "red")) (lC (m2 fAddD (mV 3) (mTd (lC (mC (.str "nostep")) (lN)))) (lN))))) (lN))))) (gtN 2))
    (sSeq (sAsg (m2 fAddD (mV 2) (mLd (lC (mTd (lC (mV 1) (lC (mC (.str "red")) (lC (mTd (lC (mC (.int 0)) (lN))) (lN))))) (lC (mTd (lC (mV 1) (lC (mC (.str "red")) (lC (mV 4) (lN))))) (lN))))) (gtN 2))
    (sSeq (sAsg (m2 fAddD (mV 2) (mLd (lC (mTd (lC (mV 1) (lC (mC (.str "r1")) (lC (mV 3) (lN))))) (lC (mTd (lC (mV 1) (lC (mC (.str "r d")) (lC (mV 3) (lN))))) (lC (mTd (lC (mV 1) (lC (mC (.str "1")) (lC (mV 3) (lN))))) (lC (mTd (lC (mV 1) (lC (mC (.str "r-d")) (lC (mV 3) (lN))))) (lN))))))) (gtN 2))
    (sSeq (sAsg (m2 fAddD (mV 2) (mLd (lC (mTd (lC (mV 1) (lC (mLd (lC (mC (.str "red")) (lN))) (lC (mV 3) (lN))))) (lN)))) (gtN 2))
    (sSeq (sAsg (m2 fAddD (mV 2) (mLd (lC (mTd (lC (mLd (lC (mC (.str "ann")) (lN))) (lC (mC (.str "red")) (lC (mV 3) (lN))))) (lC (mTd (lC (mTd (lC (mC (.str "ann")) (lN))) (lC (mC (.str "red")) (lC (mV 3) (lN))))) (lC (mTd (lC (mV 1) (lC (mC (.str "red")) (lC (m2 fAddD (mV 3) (mSlD (mV 3) (oN) (oS (mC (.int 1))))) (lN))))) (lN)))))) (gtN 2))
    (sSeq (sAsg (m2 fAddD (mV 2) (mLd (lC (mTd (lC (mV 1) (lC (mC (.str "red")) (lC (m2 fAddD (mSlD (mV 3) (oN) (oS (mC (.int 1)))) (mV 3)) (lN))))) (lN)))) (gtN 2))
    (sSeq (sAsg (m2 fAddD (mV 2) (mLd (lC (mTd (lC (m2 fMulS (mC (.str "q")) (mC (.int 9))) (lC (mC (.str "red")) (lC (mV 3) (lN))))) (lC (mTd (lC (mV 1) (lC (m2 fMulS (mC (.str "r")) (mC (.int 9))) (lC (mV 3) (lN))))) (lC (mTd (lC (mC .non) (lC (mC (.str "red")) (lC (mV 3) (lN))))) (lN)))))) (gtN 2))
    (sSeq (sAsg (m2 fAddD (mV 2) (mLd (lC (mTd (lC (mV 1) (lC (mC .non) (lC (mV 3) (lN))))) (lC (mTd (lC (mC (.str "q1")) (lC (mC (.str "red")) (lC (mTd (lN)) (lN))))) (lN))))) (gtN 2))
    (sSeq (sAsg (m2 fAddD (mV 2) (mLd (lC (mTd (lC (mV 1) (lC (mC (.str "red")) (lC (mTd (lC (mLd (lC (mV 4) (lN))) (lN))) (lN))))) (lC (mTd (lC (mC (.str "q q")) (lC (mC (.str "red")) (lC (mTd (lN)) (lN))))) (lC (mTd (lC (mV 1) (lC (mC (.int 0)) (lC (mV 3) (lN))))) (lN)))))) (gtN 2))
    (sRet (m2 fAddD (mV 2) (mLd (lC (mTd (lC (mC (.bl true)) (lC (mC (.str "red")) (lC (mV 3) (lN))))) (lC (mTd (lC (mV 1) (lC (mC (.str "red")) (lC (mTd (lC (mC .non) (lN))) (lN))))) (lN)))))))))))))))))))
def p_law_odd_people (B_ns : List Int) : List U → P0 := pfn 5 (m_law_odd_people B_ns)
def d_law_odd_people (B_ns : List Int) : List U → Mh → R U := runP (p_law_odd_people B_ns)
abbrev st_law_doubles_right : Stmt := topS 31
abbrev N_law_doubles_right : List Str := ["feed", "steps", "at", "wrong", "due", "to"]
def m_law_doubles_right (B_ns : List Int) : Ms := sSeq (sForF (wR1 (lC (mBt (fLenD B_ns) (lC (mV 1) (lN))) (lN))) (gtN 2) (sForF (wSeq (mTd (lC (m2 fAddD (mV 1) (mLd (lC (m2 (fIxD B_ns) (mV 1) (mV 2)) (lN)))) (lC (m2 fAddD (mSlD (mV 1) (oN) (oS (m2 fAddD (mV 2) (mC (.int 1))))) (mSlD (mV 1) (oS (mV 2)) (oN))) (lC (m2 fAddD (mSlD (mV 1) (oS (mV 2)) (oN)) (mSlD (mV 1) (oN) (oS (m2 fAddD (mV 2) (mC (.int 1)))))) (lN)))))) (gtN 3) (sSeq (sAsg (m2 (fIxD B_ns) (mLcF (wR1 (lC (mBt (fLenD B_ns) (lC (mV 3) (lN))) (lN))) (gtN 5) (bV (m2 fIn (m2 (fIxD B_ns) (mV 3) (mV 5)) (mSlD (mV 3) (oN) (oS (mV 5))))) (mV 5) [5]) (mC (.int 0))) (gtN 4))
    (sIf (bAnd (bV (m2 fLt (mV 4) (mC (.int 6)))) (bV (m2 fNe (mCall (d_law_made B_ns)  (lC (m2 fAddD (mV 3) (mLd (lC (mC .non) (lN)))) (lC (mLd (lN)) (lN)))) (mTd (lC (mC (.str "step")) (lC (mV 4) (lN))))))) (sRet (mC (.bl false))) (sPass)))))
    (sRet (mC (.bl true)))
def p_law_doubles_right (B_ns : List Int) : O → List U → PM := pmf 6 (m_law_doubles_right B_ns)
def d_law_doubles_right (B_ns : List Int) : List U → Mh → R U := runM (p_law_doubles_right B_ns)
abbrev st_law_take : Stmt := topS 23
abbrev N_law_take : List Str := ["feed", "bound", "digit"]
def m_law_take (B_ns : List Int) : Ms := sSeq (sIf (bV (m2 fGt (m2 (fIxD B_ns) (mV 0) (mC (.int 0))) (mC (.int 0)))) (sSeq (sAsg (m2 fMod (mBt (fInt) (lC (m2 (fIxD B_ns) (mV 0) (mC (.int 0))) (lN))) (mV 1)) (gtN 2))
    (sSeq (sPut (mV 0) (mC (.int 0)) (m2 fDiv (m2 (fIxD B_ns) (mV 0) (mC (.int 0))) (mV 1)))
    (sRet (mV 2)))) (sPass))
    (sSeq (sPut (mV 0) (mC (.int 1)) (m2 fMod (mBt (fInt) (lC (m2 fAddD (m2 fMulE (m2 (fIxD B_ns) (mV 0) (mC (.int 1))) (mC (.int 6364136223846793005))) (mC (.int 1442695040888963407))) (lN))) (mC (.int 2305843009213693951))))
    (sRet (m2 fMod (mBt (fInt) (lC (m2 fDiv (m2 (fIxD B_ns) (mV 0) (mC (.int 1))) (mC (.int 65536))) (lN))) (mV 1))))
def p_law_take (B_ns : List Int) : O → List U → PM := pmf 3 (m_law_take B_ns)
def d_law_take (B_ns : List Int) : List U → Mh → R U := runM (p_law_take B_ns)
abbrev st_law_steps_refused : Stmt := topS 30
abbrev N_law_steps_refused : List Str := ["feed", "steps", "at", "bad", "six", "wrong", "held"]
def m_law_steps_refused (B_ns : List Int) : Ms := sSeq (sAsg (mCall (d_law_take B_ns)  (lC (mV 0) (lC (m2 fAddD (mBt (fLenD B_ns) (lC (mV 1) (lN))) (mC (.int 1))) (lN)))) (gtN 2))
    (sSeq (sForF (wSeq (m2 fAddD (mLd (lC (mC .non) (lC (mC (.str "")) (lC (mC (.str "A")) (lC (mC (.str "a1")) (lC (m2 fMulS (mC (.str "q")) (mC (.int 9))) (lC (mC (.int 0)) (lC (mLd (lN)) (lC (mTd (lC (mC (.str "a")) (lN))) (lC (mC (.str "a b")) (lC (mC (.bl true)) (lN)))))))))))) (mSlD (mSlD (mV 1) (oN) (oS (mV 2))) (oN) (oS (mC (.int 1)))))) (gtN 3) (sSeq (sAsg (m2 fAddD (m2 fAddD (m2 fAddD (mSlD (mV 1) (oN) (oS (mV 2))) (mLd (lC (mV 3) (lN)))) (mSlD (mV 1) (oS (mV 2)) (oN))) (mLd (lC (mC .non) (lN)))) (gtN 5))
    (sSeq (sAsg (mBt (fRepr) (lC (mV 5) (lN))) (gtN 6))
    (sIf (bOr (bV (m2 fNe (mCall (d_law_made B_ns)  (lC (mV 5) (lC (mC .non) (lN)))) (mTd (lC (mC (.str "step")) (lC (mV 2) (lN)))))) (bV (m2 fNe (mBt (fRepr) (lC (mV 5) (lN))) (mV 6)))) (sRet (mC (.bl false))) (sPass)))))
    (sSeq (sAsg (mLd (lC (mC (.str "a")) (lC (mC (.str "b")) (lC (mC (.str "c")) (lC (mC (.str "d")) (lC (mC (.str "e")) (lC (mC (.str "f")) (lN)))))))) (gtN 4))
    (sSeq (sIf (bOr (bV (m2 fNe (mCall (d_law_made B_ns)  (lC (m2 fAddD (mV 4) (mLd (lC (mC (.str "g")) (lN)))) (lC (mC .non) (lN)))) (mTd (lC (mC (.str "count")) (lC (mC (.int 0)) (lN)))))) (bV (m2 fNe (mCall (d_law_made B_ns)  (lC (m2 fAddD (mV 4) (mLd (lC (mC .non) (lN)))) (lC (mLd (lN)) (lN)))) (mTd (lC (mC (.str "count")) (lC (mC (.int 0)) (lN))))))) (sRet (mC (.bl false))) (sPass))
    (sSeq (sIf (bOr (bV (m2 fNe (mCall (d_law_made B_ns)  (lC (mLd (lN)) (lC (mC .non) (lN)))) (mTd (lC (mC (.str "count")) (lC (mC (.int 0)) (lN)))))) (bV (m2 fNotN (mCall (d_law_made B_ns)  (lC (mV 4) (lC (mLd (lN)) (lN)))) (mC .non)))) (sRet (mC (.bl false))) (sPass))
    (sSeq (sForF (wSeq (mLd (lC (mC .non) (lC (mBt (fTupD) (lC (mV 1) (lN))) (lC (mC (.str "ask")) (lC (mC (.int 0)) (lN))))))) (gtN 3) (sIf (bOr (bV (m2 fNe (mCall (d_law_made B_ns)  (lC (mV 3) (lC (mC .non) (lN)))) (mTd (lC (mC (.str "list")) (lC (mC (.int 0)) (lN)))))) (bV (m2 fNe (mCall (d_law_made B_ns)  (lC (mBt (fLstD) (lC (mV 1) (lN))) (lC (mV 3) (lN)))) (mTd (lC (mC (.str "list")) (lC (mC (.int 0)) (lN))))))) (sRet (mC (.bl false))) (sPass)))
    (sRet (m2 fEq (mCall (d_law_made B_ns)  (lC (m2 fAddD (mSlD (mV 4) (oN) (oS (mC (.int 5)))) (mLd (lC (mC (.str "a")) (lN)))) (lC (mLd (lN)) (lN)))) (mTd (lC (mC (.str "step")) (lC (mC (.int 5)) (lN)))))))))))
def p_law_steps_refused (B_ns : List Int) : O → List U → PM := pmf 7 (m_law_steps_refused B_ns)
def d_law_steps_refused (B_ns : List Int) : List U → Mh → R U := runM (p_law_steps_refused B_ns)
abbrev st_law_pick : Stmt := topS 24
abbrev N_law_pick : List Str := ["feed", "some"]
def m_law_pick (B_ns : List Int) : Ms := sRet (m2 (fIxD B_ns) (mV 1) (mCall (d_law_take B_ns)  (lC (mV 0) (lC (mBt (fLenD B_ns) (lC (mV 1) (lN))) (lN)))))
def p_law_pick (B_ns : List Int) : O → List U → PM := pmf 2 (m_law_pick B_ns)
def d_law_pick (B_ns : List Int) : List U → Mh → R U := runM (p_law_pick B_ns)
abbrev st_law_drawn_staff : Stmt := topS 25
abbrev N_law_drawn_staff : List Str := ["feed", "steps_most", "people_most", "row", "steps", "houses", "name", "people", "folk", "some", "step"]
def m_law_drawn_staff (B_ns : List Int) : Ms := sSeq (sAsg (mSlD (mLd (lC (mC (.str "ask")) (lC (mC (.str "as")) (lC (mC (.str "bid")) (lC (mC (.str "cut")) (lC (mC (.str "dig")) (lC (mC (.str "finishes")) (lN)))))))) (oN) (oS (m2 fAddD (mC (.int 1)) (mCall (d_law_take B_ns)  (lC (mV 0) (lC (mV 1) (lN))))))) (gtN 3))
    (sSeq (sAsg (mIf (bV (m2 fEq (mCall (d_law_take B_ns)  (lC (mV 0) (lC (mC (.int 3)) (lN)))) (mC (.int 0)))) (m1 fRev (mV 3)) (mV 3)) (gtN 4))
    (sSeq (sPar 7 8 (lC (mL (lN)) (lC (mSlD (mLd (lC (mC (.str "cid")) (lC (mC (.str "ann")) (lC (mC (.str "bob")) (lC (mC (.str "eve")) (lC (mC (.str "dot")) (lC (mC (.str "ask")) (lC (mC (.str "abcdefgh")) (lC (mC (.str "z")) (lN)))))))))) (oN) (oS (mCall (d_law_take B_ns)  (lC (mV 0) (lC (m2 fAddD (mV 2) (mC (.int 1))) (lN)))))) (lN))))
    (sSeq (sAsg (mCall (d_law_pick B_ns)  (lC (mV 0) (lC (mLd (lC (mLd (lC (mC (.str "red")) (lN))) (lC (mLd (lC (mC (.str "red")) (lC (mC (.str "sea")) (lN)))) (lC (mLd (lC (mC (.str "sea")) (lC (mC (.str "red")) (lN)))) (lC (mLd (lC (mC (.str "ask")) (lC (mC (.str "b")) (lC (mC (.str "seaports")) (lN))))) (lN)))))) (lN)))) (gtN 5))
    (sSeq (sForF (wSeq (mV 8)) (gtN 6) (sSeq (sAsg (mLcF (wSeq (mV 4)) (gtN 10) (bV (m2 fGt (mCall (d_law_take B_ns)  (lC (mV 0) (lC (mC (.int 4)) (lN)))) (mC (.int 0)))) (mV 10) [10]) (gtN 9))
    (sE (mMtL fAppend (mV 7) (lC (mTd (lC (mV 6) (lC (mCall (d_law_pick B_ns)  (lC (mV 0) (lC (mV 5) (lN)))) (lC (mBt (fTupD) (lC (mIf (bV (m2 fGt (mCall (d_law_take B_ns)  (lC (mV 0) (lC (mC (.int 3)) (lN)))) (mC (.int 0)))) (mV 9) (m1 fRev (mV 9))) (lN))) (lN))))) (lN))))))
    (sSeq (sFrz 7) (sRet (mLd (lC (mV 4) (lC (mV 7) (lN))))))))))
def p_law_drawn_staff (B_ns : List Int) : O → List U → PM := pmf 11 (m_law_drawn_staff B_ns)
def d_law_drawn_staff (B_ns : List Int) : List U → Mh → R U := runM (p_law_drawn_staff B_ns)
abbrev st_law_feed : Stmt := topS 22
abbrev N_law_feed : List Str := ["script", "k", "cell", "digits", "state"]
def m_law_feed (B_ns : List Int) : Ms := sSeq (sAsg (mIf (bV (m2 fLt (mV 1) (mBt (fLenD B_ns) (lC (mV 0) (lN))))) (m2 (fIxD B_ns) (mV 0) (mV 1)) (m2 fAddD (m2 fMulE (mC (.int 61)) (mV 1)) (mC (.int 17)))) (gtN 2))
    (sSeq (sAsg (mBt (fMax2) (lC (mC (.int 0)) (lC (m2 fSub (mBt (fAbs) (lC (mV 2) (lN))) (m2 fPow (mC (.int 10)) (mC (.int 18)))) (lN)))) (gtN 3))
    (sSeq (sAsg (m2 fMod (mBt (fInt) (lC (m2 fAddD (m2 fAddD (m2 fMulE (mV 2) (mC (.int 6364136223846793005))) (m2 fMulE (mC (.int 7919)) (mV 1))) (mC (.int 1442695040888963407))) (lN))) (mC (.int 2305843009213693951))) (gtN 4))
    (sRet (mL (lC (mV 3) (lC (mV 4) (lN)))))))
def d_law_feed (B_ns : List Int) : List U → Mh → R U := runB 5 (m_law_feed B_ns)
abbrev st_p_Staff_people : Stmt := inClass (topS 20) 8
abbrev N_p_Staff_people : List Str := ["self"]
def m_p_Staff_people (B_ns : List Int) : Ms := sRet (mBt (fLstD) (lC (mFldD 7 "_people" (mV 0)) (lN)))
def p_p_Staff_people (B_ns : List Int) : List U → P0 := pfn 1 (m_p_Staff_people B_ns)
def d_p_Staff_people (B_ns : List Int) : List U → Mh → R U := runP (p_p_Staff_people B_ns)
abbrev st_p_law : Stmt := topS 32
abbrev N_p_law : List Str := ["script", "k", "feed", "to", "again", "bad", "eight", "staff", "steps", "people", "wrong", "held", "told", "due", "person", "name", "nth"]
def m_p_law (B_ns : List Int) : Ms := sSeq (sForF (wR1 (lC (mBt (fMax2) (lC (mC (.int 1)) (lC (mBt (fMin2) (lC (mC (.int 2)) (lC (mBt (fLenD B_ns) (lC (mV 0) (lN))) (lN)))) (lN)))) (lN))) (gtN 1) (sSeq (sAsg (mCall (d_law_feed B_ns)  (lC (mV 0) (lC (mV 1) (lN)))) (gtN 2))
    (sSeq (sAsg (mCall (d_law_drawn_staff B_ns)  (lC (mV 2) (lC (mC (.int 5)) (lC (mC (.int 7)) (lN))))) (gtD 2 (gtCons (gtN 8) (gtCons (gtN 9) (gtNil)))))
    (sSeq (sAsg (mCall (d_law_take B_ns)  (lC (mV 2) (lC (m2 fAddD (mBt (fLenD B_ns) (lC (mV 9) (lN))) (mC (.int 1))) (lN)))) (gtN 3))
    (sSeq (sIf (bOr (bNot (bV (mCall (d_law_steps_refused B_ns)  (lC (mV 2) (lC (mV 8) (lN)))))) (bNot (bV (mCall (d_law_doubles_right B_ns)  (lC (mV 2) (lC (mV 8) (lN))))))) (sRet (mC (.bl false))) (sPass))
    (sSeq (sAsg (mLcF (wSeq (mSlD (mSlD (mV 9) (oN) (oS (mV 3))) (oS (m1 fNeg (mC (.int 1)))) (oN))) (gtN 14) (bYes) (mTd (lC (m2 (fIxD B_ns) (mV 14) (mC (.int 0))) (lC (mC (.str "q")) (lC (mTd (lN)) (lN))))) [14]) (gtN 4))
    (sSeq (sForF (wSeq (m2 fAddD (m2 fAddD (mCall (d_law_odd_people B_ns)  (lC (mV 8) (lC (mC (.str "newname")) (lN)))) (mSlD (mSlD (mV 9) (oN) (oS (mV 3))) (oN) (oS (mC (.int 1))))) (mV 4))) (gtN 5) (sSeq (sAsg (m2 fAddD (m2 fAddD (m2 fAddD (mSlD (mV 9) (oN) (oS (mV 3))) (mLd (lC (mV 5) (lN)))) (mSlD (mV 9) (oS (mV 3)) (oN))) (mLd (lC (mC .non) (lN)))) (gtN 10))
    (sSeq (sAsg (mBt (fRepr) (lC (mV 10) (lN))) (gtN 11))
    (sIf (bOr (bV (m2 fNe (mCall (d_law_made B_ns)  (lC (mBt (fLstD) (lC (mV 8) (lN))) (lC (mV 10) (lN)))) (mTd (lC (mC (.str "person")) (lC (mV 3) (lN)))))) (bV (m2 fNe (mBt (fRepr) (lC (mV 10) (lN))) (mV 11)))) (sRet (mC (.bl false))) (sPass)))))
    (sSeq (sAsg (mLcF (wSeq (mTd (lC (mC (.str "a")) (lC (mC (.str "b")) (lC (mC (.str "c")) (lC (mC (.str "d")) (lC (mC (.str "e")) (lC (mC (.str "f")) (lC (mC (.str "g")) (lC (mC (.str "h")) (lN))))))))))) (gtN 15) (bYes) (mTd (lC (mV 15) (lC (mC (.str "red")) (lC (mTd (lN)) (lN))))) [15]) (gtN 6))
    (sSeq (sIf (bOr (bV (m2 fNe (mCall (d_law_made B_ns)  (lC (mBt (fLstD) (lC (mV 8) (lN))) (lC (m2 fAddD (mV 6) (mLd (lC (mC .non) (lN)))) (lN)))) (mTd (lC (mC (.str "count")) (lC (mC (.int 0)) (lN)))))) (bV (m2 fNotN (mCall (d_law_made B_ns)  (lC (mBt (fLstD) (lC (mV 8) (lN))) (lC (mV 6) (lN)))) (mC .non)))) (sRet (mC (.bl false))) (sPass))
    (sSeq (sAsg (mMakeD 7 (p_p_Staff___init__ B_ns)  (lC (mBt (fLstD) (lC (mV 8) (lN))) (lC (mBt (fLstD) (lC (mV 9) (lN))) (lN)))) (gtN 7))
    (sSeq (sForF (wSeq (mLd (lC (mC .non) (lC (mC (.str "q")) (lC (mC (.str "")) (lC (mC (.int 0)) (lC (mLd (lC (mC (.str "cid")) (lN))) (lC (mTd (lC (mC (.str "cid")) (lN))) (lC (mC (.str "Cid")) (lC (mC (.bl true)) (lC (mC (.str "nostep")) (lC (mC (.str "red")) (lC (mC (.str "seaports")) (lN)))))))))))))) (gtN 5) (sSeq (sAsg (mLcF (wR1 (lC (mC (.int 5)) (lN))) (gtN 16) (bYes) (mCall (d_law_asked B_ns)  (lC (mV 7) (lC (mV 16) (lC (mV 5) (lC (mV 5) (lN)))))) [16]) (gtN 12))
    (sSeq (sAsg (mL (lC (mTd (lC (mC (.str "person")) (lC (mBt (fRepr) (lC (mV 5) (lN))) (lN)))) (lC (mTd (lC (mC (.str "person")) (lC (mBt (fRepr) (lC (mV 5) (lN))) (lN)))) (lC (mTd (lC (mC (.str "step")) (lC (mBt (fRepr) (lC (mV 5) (lN))) (lN)))) (lN))))) (gtN 13))
    (sSeq (sAsg (m2 fAddM (mV 13) (mLd (lC (mTd (lC (mC (.str "list")) (lC (mC (.str "")) (lN)))) (lC (mTd (lC (mC (.str "step")) (lC (mBt (fRepr) (lC (mV 5) (lN))) (lN)))) (lN))))) (gtN 13))
    (sSeq (sIf (bV (m1 (fIsi "list") (mV 5))) (sPut (mV 13) (mC (.int 3)) (mIf (bV (m2 (fInOwn true 7 (d_p_Staff___contains__ B_ns) ) (m2 (fIxD B_ns) (mV 5) (mC (.int 0))) (mV 7))) (mTd (lC (mC (.str "person")) (lC (mBt (fRepr) (lC (m2 (fIxD B_ns) (mV 5) (mC (.int 0))) (lN))) (lN)))) (mC .non))) (sPass))
    (sSeq (sFrz 13) (sSeq (sIf (bOr (bV (m2 fNe (mV 12) (mV 13))) (bV (m2 fNe (mCall (d_law_asked B_ns)  (lC (mV 7) (lC (mC (.int 4)) (lC (m2 (fIxD B_ns) (mV 8) (mC (.int 0))) (lC (mV 5) (lN)))))) (mTd (lC (mC (.str "person")) (lC (mBt (fRepr) (lC (mV 5) (lN))) (lN))))))) (sRet (mC (.bl false))) (sPass))
    (sIf (bV (m2 fNe (mCall (d_law_asked B_ns)  (lC (mV 7) (lC (mC (.int 3)) (lC (m2 fAddD (mLcF (wSeq (mV 9)) (gtN 14) (bYes) (m2 (fIxD B_ns) (mV 14) (mC (.int 0))) [14]) (mLd (lC (mV 5) (lC (mC .non) (lN))))) (lC (mC (.int 0)) (lN)))))) (mTd (lC (mC (.str "person")) (lC (mBt (fRepr) (lC (mV 5) (lN))) (lN)))))) (sRet (mC (.bl false))) (sPass)))))))))
    (sIf (bV (m2 fNe (mMethD 7 "people" (d_p_Staff_people B_ns)  (mV 7) lN) (mCall (d_law_told B_ns)  (lC (mV 8) (lC (mV 9) (lN)))))) (sRet (mC (.bl false))) (sPass)))))))))))))
    (sRet (mC (.bl true)))
def d_p_law (B_ns : List Int) : List U → Mh → R U := runB 17 (m_p_law B_ns)
end Law

set_option Elab.async false
set_option linter.all false
set_option maxRecDepth 100000
set_option maxHeartbeats 4100000
namespace Law
open PySem PySem.Spec PyProof.Rows L2 Vm
/-- what the defs find in the module -/
structure Fx (P : Program) (w : World) (K : PySem.W.Frag) (mg : Str → Option Value) (base : Heap) (g : Gc) : Prop where
  hK : K = g.K
  hx : g.exn = none
  z_abs : mg "abs" = none
  z_all : mg "all" = none
  z_enumerate : mg "enumerate" = none
  z_int : mg "int" = none
  z_isinstance : mg "isinstance" = none
  z_len : mg "len" = none
  z_list : mg "list" = none
  z_max : mg "max" = none
  z_min : mg "min" = none
  z_range : mg "range" = none
  z_repr : mg "repr" = none
  z_str : mg "str" = none
  z_tuple : mg "tuple" = none
  g_MOST_LETTERS : ∃ t, mg "MOST_LETTERS" = some (.int 8 t)
  g_MOST_PEOPLE : ∃ t, mg "MOST_PEOPLE" = some (.int 8 t)
  g_MOST_STEPS : ∃ t, mg "MOST_STEPS" = some (.int 6 t)
  m_NoList : mg "NoList" = some (.ref (g.cl 1))
  x_NoList : Xc0 K mg "NoList" (g.cl 1)
  m_BadCount : mg "BadCount" = some (.ref (g.cl 2))
  x_BadCount : Xc0 K mg "BadCount" (g.cl 2)
  m_BadStep : mg "BadStep" = some (.ref (g.cl 3))
  x_BadStep : Xcf P w K mg base "BadStep" "number" (g.cl 3)
  m_BadPerson : mg "BadPerson" = some (.ref (g.cl 4))
  x_BadPerson : Xcf P w K mg base "BadPerson" "number" (g.cl 4)
  m_NoStep : mg "NoStep" = some (.ref (g.cl 5))
  x_NoStep : Xcf P w K mg base "NoStep" "name" (g.cl 5)
  m_NoPerson : mg "NoPerson" = some (.ref (g.cl 6))
  x_NoPerson : Xcf P w K mg base "NoPerson" "name" (g.cl 6)
  q_NoList : Exm K g.cl 7 1
  q_BadCount : Exm K g.cl 7 2
  q_BadStep : Exm K g.cl 7 3
  q_BadPerson : Exm K g.cl 7 4
  q_NoStep : Exm K g.cl 7 5
  q_NoPerson : Exm K g.cl 7 6
  xf_BadStep : XfC K (g.cl 3)
  nx_BadStep : PySem.W.findIn K (.ref (g.cl 3)) "number" = some none
  xf_BadPerson : XfC K (g.cl 4)
  nx_BadPerson : PySem.W.findIn K (.ref (g.cl 4)) "number" = some none
  xf_NoStep : XfC K (g.cl 5)
  nx_NoStep : PySem.W.findIn K (.ref (g.cl 5)) "name" = some none
  xf_NoPerson : XfC K (g.cl 6)
  nx_NoPerson : PySem.W.findIn K (.ref (g.cl 6)) "name" = some none
  m_Staff : mg "Staff" = some (.ref (g.cl 7))
  T_Staff : Cls K (g.cl 7)
  n_Staff__steps : NoAttr K (g.cl 7) "_steps"
  n_Staff__people : NoAttr K (g.cl 7) "_people"
theorem sc_law_told : FnScope N_law_told ["steps", "people"] (defScope (st_law_told)) := ⟨rfl, rfl, rfl, by decide +kernel, rfl, by decide +kernel, by decide +kernel⟩
theorem sc_left_to : FnScope N_left_to ["step", "keeper", "person"] (defScope (st_left_to)) := ⟨rfl, rfl, rfl, by decide +kernel, rfl, by decide +kernel, by decide +kernel⟩
theorem sc_in_order : FnScope N_in_order ["steps", "person"] (defScope (st_in_order)) := ⟨rfl, rfl, rfl, by decide +kernel, rfl, by decide +kernel, by decide +kernel⟩
theorem sc_p_are_unlike_steps : FnScope N_p_are_unlike_steps ["steps", "value"] (defScope (st_p_are_unlike_steps)) := ⟨rfl, rfl, rfl, by decide +kernel, rfl, by decide +kernel, by decide +kernel⟩
theorem sc_p_is_name : FnScope N_p_is_name ["value"] (defScope (st_p_is_name)) := ⟨rfl, rfl, rfl, by decide +kernel, rfl, by decide +kernel, by decide +kernel⟩
theorem sc_p_is_person : FnScope N_p_is_person ["steps", "value"] (defScope (st_p_is_person)) := ⟨rfl, rfl, rfl, by decide +kernel, rfl, by decide +kernel, by decide +kernel⟩
theorem sc_check_people : FnScope N_check_people ["steps", "people"] (defScope (st_check_people)) := ⟨rfl, rfl, rfl, by decide +kernel, rfl, by decide +kernel, by decide +kernel⟩
theorem sc_check_steps : FnScope N_check_steps ["steps"] (defScope (st_check_steps)) := ⟨rfl, rfl, rfl, by decide +kernel, rfl, by decide +kernel, by decide +kernel⟩
theorem sc_p_Staff___init__ : FnScope N_p_Staff___init__ ["self", "steps", "people"] (defScope (st_p_Staff___init__)) := ⟨rfl, rfl, rfl, by decide +kernel, rfl, by decide +kernel, by decide +kernel⟩
theorem sc_p_Staff_names : FnScope N_p_Staff_names ["self"] (defScope (st_p_Staff_names)) := ⟨rfl, rfl, rfl, by decide +kernel, rfl, by decide +kernel, by decide +kernel⟩
theorem sc_p_Staff___contains__ : FnScope N_p_Staff___contains__ ["self", "name"] (defScope (st_p_Staff___contains__)) := ⟨rfl, rfl, rfl, by decide +kernel, rfl, by decide +kernel, by decide +kernel⟩
theorem sc_p_Staff_only : FnScope N_p_Staff_only ["self", "step", "name"] (defScope (st_p_Staff_only)) := ⟨rfl, rfl, rfl, by decide +kernel, rfl, by decide +kernel, by decide +kernel⟩
theorem sc_p_Staff_without : FnScope N_p_Staff_without ["self", "names"] (defScope (st_p_Staff_without)) := ⟨rfl, rfl, rfl, by decide +kernel, rfl, by decide +kernel, by decide +kernel⟩
theorem sc_p_Staff_able : FnScope N_p_Staff_able ["self", "step"] (defScope (st_p_Staff_able)) := ⟨rfl, rfl, rfl, by decide +kernel, rfl, by decide +kernel, by decide +kernel⟩
theorem sc_p_Staff__person : FnScope N_p_Staff__person ["self", "name"] (defScope (st_p_Staff__person)) := ⟨rfl, rfl, rfl, by decide +kernel, rfl, by decide +kernel, by decide +kernel⟩
theorem sc_p_Staff_list_of : FnScope N_p_Staff_list_of ["self", "name"] (defScope (st_p_Staff_list_of)) := ⟨rfl, rfl, rfl, by decide +kernel, rfl, by decide +kernel, by decide +kernel⟩
theorem sc_p_Staff_group : FnScope N_p_Staff_group ["self", "name"] (defScope (st_p_Staff_group)) := ⟨rfl, rfl, rfl, by decide +kernel, rfl, by decide +kernel, by decide +kernel⟩
theorem sc_law_asked : FnScope N_law_asked ["staff", "nth", "value", "other"] (defScope (st_law_asked)) := ⟨rfl, rfl, rfl, by decide +kernel, rfl, by decide +kernel, by decide +kernel⟩
theorem sc_law_made : FnScope N_law_made ["steps", "people"] (defScope (st_law_made)) := ⟨rfl, rfl, rfl, by decide +kernel, rfl, by decide +kernel, by decide +kernel⟩
theorem sc_law_odd_people : FnScope N_law_odd_people ["steps", "name"] (defScope (st_law_odd_people)) := ⟨rfl, rfl, rfl, by decide +kernel, rfl, by decide +kernel, by decide +kernel⟩
theorem sc_law_doubles_right : FnScope N_law_doubles_right ["feed", "steps"] (defScope (st_law_doubles_right)) := ⟨rfl, rfl, rfl, by decide +kernel, rfl, by decide +kernel, by decide +kernel⟩
theorem sc_law_take : FnScope N_law_take ["feed", "bound"] (defScope (st_law_take)) := ⟨rfl, rfl, rfl, by decide +kernel, rfl, by decide +kernel, by decide +kernel⟩
theorem sc_law_steps_refused : FnScope N_law_steps_refused ["feed", "steps"] (defScope (st_law_steps_refused)) := ⟨rfl, rfl, rfl, by decide +kernel, rfl, by decide +kernel, by decide +kernel⟩
theorem sc_law_pick : FnScope N_law_pick ["feed", "some"] (defScope (st_law_pick)) := ⟨rfl, rfl, rfl, by decide +kernel, rfl, by decide +kernel, by decide +kernel⟩
theorem sc_law_drawn_staff : FnScope N_law_drawn_staff ["feed", "steps_most", "people_most"] (defScope (st_law_drawn_staff)) := ⟨rfl, rfl, rfl, by decide +kernel, rfl, by decide +kernel, by decide +kernel⟩
theorem sc_law_feed : FnScope N_law_feed ["script", "k"] (defScope (st_law_feed)) := ⟨rfl, rfl, rfl, by decide +kernel, rfl, by decide +kernel, by decide +kernel⟩
theorem sc_p_Staff_people : FnScope N_p_Staff_people ["self"] (defScope (st_p_Staff_people)) := ⟨rfl, rfl, rfl, by decide +kernel, rfl, by decide +kernel, by decide +kernel⟩
theorem sc_p_law : FnScope N_p_law ["script"] (defScope (st_p_law)) := ⟨rfl, rfl, rfl, by decide +kernel, rfl, by decide +kernel, by decide +kernel⟩
theorem si_BadStep : FnScope ["self", "number"] ["self", "number"] (defScope (clsS (topS 5))) := ⟨rfl, rfl, rfl, by decide +kernel, rfl, by decide +kernel, by decide +kernel⟩
theorem si_BadPerson : FnScope ["self", "number"] ["self", "number"] (defScope (clsS (topS 6))) := ⟨rfl, rfl, rfl, by decide +kernel, rfl, by decide +kernel, by decide +kernel⟩
theorem si_NoStep : FnScope ["self", "name"] ["self", "name"] (defScope (clsS (topS 7))) := ⟨rfl, rfl, rfl, by decide +kernel, rfl, by decide +kernel, by decide +kernel⟩
theorem si_NoPerson : FnScope ["self", "name"] ["self", "name"] (defScope (clsS (topS 8))) := ⟨rfl, rfl, rfl, by decide +kernel, rfl, by decide +kernel, by decide +kernel⟩
section
variable {P : Program} {w : World} {K : PySem.W.Frag} {mg : Str → Option Value} {base : Heap} {g : Gc}
theorem ok_law_told (B : Fx P w K mg base g) {f : Addr} {fd : FuncData} (F : Fun K "_law_told" "_law_told" st_law_told f fd) : FnOk P w K mg base (L2.CX P w) 1 f fd ["steps", "people"] (spM g 2 (d_law_told g.ns)) :=
  fn_okP B.hx (k := 0) F sc_law_told fun cdv A outer s H E hr hu hp tk =>
      s_one (s_ret (e_lcF (own := [("name", 2), ("group", 3), ("some", 4)]) rfl sc_law_told.nd (wi_seq B.hK (e_var (i := 1))) (blkOk_by (N := N_law_told) (sc := defScope st_law_told) (by decide +kernel)) (fun _ _ _ _ _ => g_tupD B.hK rfl (gs_cons (g_name (i := 2) sc_law_told.nd) (gs_cons (g_name (i := 3) sc_law_told.nd) (gs_cons (g_name (i := 4) sc_law_told.nd) (gs_nil))))) (fun _ _ _ _ _ => b_yes) (fun _ _ _ _ _ => e_tupD (l_cons (e_var (i := 2)) (l_cons (e_var (i := 3)) (l_cons (e_callTy (call_tupX) (s_tupD B.hK) rfl B.z_tuple (by decide +kernel) (l_cons (e_lcF (own := [("step", 5)]) rfl sc_law_told.nd (wi_seq B.hK (e_var (i := 0))) (blkOk_by (N := N_law_told) (by kernel_rfl)) (fun _ _ _ _ _ => g_name (i := 5) sc_law_told.nd) (fun _ _ _ _ _ => b_one (t_cmp (o_in hu) (s_in B.hK) (e_var (i := 5)) (e_var (i := 4)))) (fun _ _ _ _ _ => e_var (i := 5)) (by decide)) (l_nil))) (l_nil))))) (by decide)))
theorem ok_left_to (B : Fx P w K mg base g) {f : Addr} {fd : FuncData} (F : Fun K "_left_to" "_left_to" st_left_to f fd) : FnOk P w K mg base (L2.CX P w) 1 f fd ["step", "keeper", "person"] (spM g 3 (d_left_to g.ns)) :=
  fn_okP B.hx (k := 0) F sc_left_to fun cdv A outer s H E hr hu hp tk =>
      s_cons (s_asg (e_var (i := 2)) (g_tupD B.hK rfl (gs_cons (g_name (i := 3) sc_left_to.nd) (gs_cons (g_name (i := 4) sc_left_to.nd) (gs_cons (g_name (i := 5) sc_left_to.nd) (gs_nil))))))
        (s_cons (s_if (t_cmp (op_eqD (lt64 hu)) (s_eq B.hK) (e_var (i := 3)) (e_var (i := 1))) (s_one (s_ret (e_var (i := 2)))) (s_nil))
        (s_one (s_ret (e_tupD (l_cons (e_var (i := 3)) (l_cons (e_var (i := 4)) (l_cons (e_callTy (call_tupX) (s_tupD B.hK) rfl B.z_tuple (by decide +kernel) (l_cons (e_lcF (own := [("each", 6)]) rfl sc_left_to.nd (wi_seq B.hK (e_var (i := 5))) (blkOk_by (N := N_left_to) (sc := defScope st_left_to) (by decide +kernel)) (fun _ _ _ _ _ => g_name (i := 6) sc_left_to.nd) (fun _ _ _ _ _ => b_one (t_cmp (op_neD (lt64 hu)) (s_ne B.hK) (e_var (i := 6)) (e_var (i := 0)))) (fun _ _ _ _ _ => e_var (i := 6)) (by decide)) (l_nil))) (l_nil))))))))
theorem ok_in_order (B : Fx P w K mg base g) {f : Addr} {fd : FuncData} (F : Fun K "_in_order" "_in_order" st_in_order f fd) : FnOk P w K mg base (L2.CX P w) 1 f fd ["steps", "person"] (spM g 2 (d_in_order g.ns)) :=
  fn_okP B.hx (k := 0) F sc_in_order fun cdv A outer s H E hr hu hp tk =>
      s_cons (s_asg (e_var (i := 1)) (g_tupD B.hK rfl (gs_cons (g_name (i := 2) sc_in_order.nd) (gs_cons (g_name (i := 3) sc_in_order.nd) (gs_cons (g_name (i := 4) sc_in_order.nd) (gs_nil))))))
        (s_one (s_ret (e_tupD (l_cons (e_var (i := 2)) (l_cons (e_var (i := 3)) (l_cons (e_callTy (call_tupX) (s_tupD B.hK) rfl B.z_tuple (by decide +kernel) (l_cons (e_lcF (own := [("step", 5)]) rfl sc_in_order.nd (wi_seq B.hK (e_var (i := 0))) (blkOk_by (N := N_in_order) (sc := defScope st_in_order) (by decide +kernel)) (fun _ _ _ _ _ => g_name (i := 5) sc_in_order.nd) (fun _ _ _ _ _ => b_one (t_cmp (o_in hu) (s_in B.hK) (e_var (i := 5)) (e_var (i := 4)))) (fun _ _ _ _ _ => e_var (i := 5)) (by decide)) (l_nil))) (l_nil)))))))
theorem ok_p_are_unlike_steps (B : Fx P w K mg base g) {f : Addr} {fd : FuncData} (F : Fun K "are_unlike_steps" "are_unlike_steps" st_p_are_unlike_steps f fd) : FnOk P w K mg base (L2.CX P w) 1 f fd ["steps", "value"] (spM g 2 (d_p_are_unlike_steps g.ns)) :=
  fn_okP B.hx (k := 0) F sc_p_are_unlike_steps fun cdv A outer s H E hr hu hp tk =>
      s_cons (s_if (PW.pt (w_or (t_not (t_val (e_isi (T := "tuple") B.hK rfl B.z_isinstance rfl B.z_tuple (by decide +kernel) (e_var (i := 1))))) (w_or1 (t_cmp op_gt s_gt (e_callB (k_len B.hK) s_lenD rfl B.z_len (by decide +kernel) (l_cons (e_var (i := 1)) (l_nil))) (e_callB (k_len B.hK) s_lenD rfl B.z_len (by decide +kernel) (l_cons (e_var (i := 0)) (l_nil))))))) (s_one (s_ret (e_bl))) (s_nil))
        (s_one (s_ret (e_callB ((cr_all rfl)) s_allD rfl B.z_all (by decide +kernel) (l_cons (e_lcF (own := [("at", 2), ("step", 3)]) rfl sc_p_are_unlike_steps.nd (wi_enum B.hK rfl B.z_enumerate (l_cons (e_var (i := 1)) (l_nil))) (blkOk_by (N := N_p_are_unlike_steps) (sc := defScope st_p_are_unlike_steps) (by decide +kernel)) (fun _ _ _ _ _ => g_tupD B.hK rfl (gs_cons (g_name (i := 2) sc_p_are_unlike_steps.nd) (gs_cons (g_name (i := 3) sc_p_are_unlike_steps.nd) (gs_nil)))) (fun _ _ _ _ _ => b_yes) (fun _ _ _ _ _ => e_and (e_cmp (o_in hu) (s_in B.hK) (e_var (i := 3)) (e_var (i := 0))) (e_one (e_cmp (o_notin hu) (s_notin B.hK) (e_var (i := 3)) (e_sliceD B.hK (e_var (i := 1)) (o_none) (o_some (e_var (i := 2))))))) (by decide)) (l_nil)))))
theorem ok_p_is_name (B : Fx P w K mg base g) {f : Addr} {fd : FuncData} (F : Fun K "is_name" "is_name" st_p_is_name f fd) : FnOk P w K mg base (L2.CX P w) 1 f fd ["value"] (spM g 1 (d_p_is_name g.ns)) :=
  fn_okP B.hx (k := 0) F sc_p_is_name fun cdv A outer s H E hr hu hp tk =>
      s_cons (s_if (PW.pt (w_or (t_not (t_val (e_isi (T := "str") B.hK rfl B.z_isinstance rfl B.z_str (by decide +kernel) (e_var (i := 0))))) (w_or1 (t_not (t_chain op_le s_le op_le s_le (e_int) (e_callB (k_len B.hK) s_lenD rfl B.z_len (by decide +kernel) (l_cons (e_var (i := 0)) (l_nil))) (e_glob (u := .int 8) (v := .int 8) rfl B.g_MOST_LETTERS.choose_spec ⟨_, rfl⟩ (fun _ => rfl))))))) (s_one (s_ret (e_bl))) (s_nil))
        (s_one (s_ret (e_callB ((cr_all rfl)) s_allD rfl B.z_all (by decide +kernel) (l_cons (e_lcF (own := [("letter", 1)]) rfl sc_p_is_name.nd (wi_str (e_var (i := 0))) (blkOk_by (N := N_p_is_name) (sc := defScope st_p_is_name) (by decide +kernel)) (fun _ _ _ _ _ => g_name (i := 1) sc_p_is_name.nd) (fun _ _ _ _ _ => b_yes) (fun _ _ _ _ _ => e_chain op_le_str s_leS op_le_str s_leS (e_str) (e_var (i := 1)) (e_str)) (by decide)) (l_nil)))))
theorem ok_p_is_person (B : Fx P w K mg base g) {f : Addr} {fd : FuncData} (F : Fun K "is_person" "is_person" st_p_is_person f fd) {f_p_are_unlike_steps : Addr} {fd_p_are_unlike_steps : FuncData} (ok_p_are_unlike_steps : FnOk P w K mg base (L2.CX P w) 1 f_p_are_unlike_steps fd_p_are_unlike_steps ["steps", "value"] (spM g 2 (d_p_are_unlike_steps g.ns))) (b_p_are_unlike_steps : Binds K fd_p_are_unlike_steps ["steps", "value"] []) (g_p_are_unlike_steps : mg "are_unlike_steps" = some (.ref f_p_are_unlike_steps)) (k_p_are_unlike_steps : PySem.W.keepIn K (.ref f_p_are_unlike_steps) = true) {f_p_is_name : Addr} {fd_p_is_name : FuncData} (ok_p_is_name : FnOk P w K mg base (L2.CX P w) 1 f_p_is_name fd_p_is_name ["value"] (spM g 1 (d_p_is_name g.ns))) (b_p_is_name : Binds K fd_p_is_name ["value"] []) (g_p_is_name : mg "is_name" = some (.ref f_p_is_name)) (k_p_is_name : PySem.W.keepIn K (.ref f_p_is_name) = true) : FnOk P w K mg base (L2.CX P w) 2 f fd ["steps", "value"] (spM g 2 (d_p_is_person g.ns)) :=
  fn_okP B.hx (k := 1) F sc_p_is_person fun cdv A outer s H E hr hu hp tk =>
      s_cons (s_if (PW.pt (w_or (t_not (t_val (e_isi (T := "tuple") B.hK rfl B.z_isinstance rfl B.z_tuple (by decide +kernel) (e_var (i := 1))))) (w_or1 (t_cmp (op_neD (lt64 hu)) (s_ne B.hK) (e_callB (k_len B.hK) s_lenD rfl B.z_len (by decide +kernel) (l_cons (e_var (i := 1)) (l_nil))) (e_int))))) (s_one (s_ret (e_bl))) (s_nil))
        (s_cons (s_asg (e_var (i := 1)) (g_tupD B.hK rfl (gs_cons (g_name (i := 2) sc_p_is_person.nd) (gs_cons (g_name (i := 3) sc_p_is_person.nd) (gs_cons (g_name (i := 4) sc_p_is_person.nd) (gs_nil))))))
        (s_one (s_ret (e_and (e_call ok_p_is_name (hr.mono (by decide)) rfl g_p_is_name k_p_is_name b_p_is_name tk (l_cons (e_var (i := 2)) (l_nil)) (lC_len (lN_len))) (e_and (e_call ok_p_is_name (hr.mono (by decide)) rfl g_p_is_name k_p_is_name b_p_is_name tk (l_cons (e_var (i := 3)) (l_nil)) (lC_len (lN_len))) (e_one (e_call ok_p_are_unlike_steps (hr.mono (by decide)) rfl g_p_are_unlike_steps k_p_are_unlike_steps b_p_are_unlike_steps tk (l_cons (e_var (i := 0)) (l_cons (e_var (i := 4)) (l_nil))) (lC_len (lC_len (lN_len))))))))))
theorem ok_check_people (B : Fx P w K mg base g) {f : Addr} {fd : FuncData} (F : Fun K "_check_people" "_check_people" st_check_people f fd) {f_p_is_person : Addr} {fd_p_is_person : FuncData} (ok_p_is_person : FnOk P w K mg base (L2.CX P w) 2 f_p_is_person fd_p_is_person ["steps", "value"] (spM g 2 (d_p_is_person g.ns))) (b_p_is_person : Binds K fd_p_is_person ["steps", "value"] []) (g_p_is_person : mg "is_person" = some (.ref f_p_is_person)) (k_p_is_person : PySem.W.keepIn K (.ref f_p_is_person) = true) : FnOk P w K mg base (L2.CX P w) 3 f fd ["steps", "people"] (spM g 2 (d_check_people g.ns)) :=
  fn_okP B.hx (k := 2) F sc_check_people fun cdv A outer s H E hr hu hp tk =>
      s_cons (s_if (t_not (t_val (e_isi (T := "list") B.hK rfl B.z_isinstance rfl B.z_list (by decide +kernel) (e_var (i := 1))))) (s_one (s_raise0 (c := 1) rfl tk B.x_NoList rfl)) (s_nil))
        (s_cons (s_set (i := 2) sc_check_people.nd (e_lst (l_nil)))
        (s_cons (s_forF hp rfl (wi_enum B.hK rfl B.z_enumerate (l_cons (e_sliceD B.hK (e_var (i := 1)) (o_none) (o_some (e_glob (u := .int 8) (v := .int 8) rfl B.g_MOST_PEOPLE.choose_spec ⟨_, rfl⟩ (fun _ => rfl)))) (l_nil))) (g_tupD B.hK rfl (gs_cons (g_name (i := 3) sc_check_people.nd) (gs_cons (g_name (i := 4) sc_check_people.nd) (gs_nil)))) (s_cons (s_if (PW.pt (w_or (t_not (t_val (e_call ok_p_is_person (hr.mono (by decide)) rfl g_p_is_person k_p_is_person b_p_is_person tk (l_cons (e_var (i := 0)) (l_cons (e_var (i := 4)) (l_nil))) (lC_len (lC_len (lN_len)))))) (w_or1 (t_cmp (o_in hu) (s_in B.hK) (e_ix (o_ix B.hK) s_ixD (e_var (i := 4)) (e_int)) (e_var (i := 2)))))) (s_one (s_xR (c := 4) rfl tk B.x_BadPerson (hr.mono (by decide)) rfl (e_var (i := 3)))) (s_nil))
        (s_one (s_expr (e_append (e_var (i := 2)) (l_cons (e_ix (o_ix B.hK) s_ixD (e_var (i := 4)) (e_int)) (l_nil)))))))
        (s_one (s_if (t_cmp op_gt s_gt (e_callB (k_len B.hK) s_lenD rfl B.z_len (by decide +kernel) (l_cons (e_var (i := 1)) (l_nil))) (e_glob (u := .int 8) (v := .int 8) rfl B.g_MOST_PEOPLE.choose_spec ⟨_, rfl⟩ (fun _ => rfl))) (s_one (s_raise0 (c := 2) rfl tk B.x_BadCount rfl)) (s_nil)))))
theorem ok_check_steps (B : Fx P w K mg base g) {f : Addr} {fd : FuncData} (F : Fun K "_check_steps" "_check_steps" st_check_steps f fd) {f_p_is_name : Addr} {fd_p_is_name : FuncData} (ok_p_is_name : FnOk P w K mg base (L2.CX P w) 1 f_p_is_name fd_p_is_name ["value"] (spM g 1 (d_p_is_name g.ns))) (b_p_is_name : Binds K fd_p_is_name ["value"] []) (g_p_is_name : mg "is_name" = some (.ref f_p_is_name)) (k_p_is_name : PySem.W.keepIn K (.ref f_p_is_name) = true) : FnOk P w K mg base (L2.CX P w) 3 f fd ["steps"] (spM g 1 (d_check_steps g.ns)) :=
  fn_okP B.hx (k := 2) F sc_check_steps fun cdv A outer s H E hr hu hp tk =>
      s_cons (s_if (t_not (t_val (e_isi (T := "list") B.hK rfl B.z_isinstance rfl B.z_list (by decide +kernel) (e_var (i := 0))))) (s_one (s_raise0 (c := 1) rfl tk B.x_NoList rfl)) (s_nil))
        (s_cons (s_forF hp rfl (wi_enum B.hK rfl B.z_enumerate (l_cons (e_sliceD B.hK (e_var (i := 0)) (o_none) (o_some (e_glob (u := .int 6) (v := .int 6) rfl B.g_MOST_STEPS.choose_spec ⟨_, rfl⟩ (fun _ => rfl)))) (l_nil))) (g_tupD B.hK rfl (gs_cons (g_name (i := 1) sc_check_steps.nd) (gs_cons (g_name (i := 2) sc_check_steps.nd) (gs_nil)))) (s_one (s_if (PW.pt (w_or (t_not (t_val (e_call ok_p_is_name (hr.mono (by decide)) rfl g_p_is_name k_p_is_name b_p_is_name tk (l_cons (e_var (i := 2)) (l_nil)) (lC_len (lN_len))))) (w_or1 (t_cmp (o_in hu) (s_in B.hK) (e_var (i := 2)) (e_sliceD B.hK (e_var (i := 0)) (o_none) (o_some (e_var (i := 1)))))))) (s_one (s_xR (c := 3) rfl tk B.x_BadStep (hr.mono (by decide)) rfl (e_var (i := 1)))) (s_nil))))
        (s_one (s_if (t_not (t_chain op_le s_le op_le s_le (e_int) (e_callB (k_len B.hK) s_lenD rfl B.z_len (by decide +kernel) (l_cons (e_var (i := 0)) (l_nil))) (e_glob (u := .int 6) (v := .int 6) rfl B.g_MOST_STEPS.choose_spec ⟨_, rfl⟩ (fun _ => rfl)))) (s_one (s_raise0 (c := 2) rfl tk B.x_BadCount rfl)) (s_nil))))
theorem ok_p_Staff___init__ (B : Fx P w K mg base g) {f : Addr} {fd : FuncData} (F : Fun K "__init__" "Staff.__init__" st_p_Staff___init__ f fd) {f_in_order : Addr} {fd_in_order : FuncData} (ok_in_order : FnOk P w K mg base (L2.CX P w) 1 f_in_order fd_in_order ["steps", "person"] (spM g 2 (d_in_order g.ns))) (b_in_order : Binds K fd_in_order ["steps", "person"] []) (g_in_order : mg "_in_order" = some (.ref f_in_order)) (k_in_order : PySem.W.keepIn K (.ref f_in_order) = true) {f_check_people : Addr} {fd_check_people : FuncData} (ok_check_people : FnOk P w K mg base (L2.CX P w) 3 f_check_people fd_check_people ["steps", "people"] (spM g 2 (d_check_people g.ns))) (b_check_people : Binds K fd_check_people ["steps", "people"] []) (g_check_people : mg "_check_people" = some (.ref f_check_people)) (k_check_people : PySem.W.keepIn K (.ref f_check_people) = true) {f_check_steps : Addr} {fd_check_steps : FuncData} (ok_check_steps : FnOk P w K mg base (L2.CX P w) 3 f_check_steps fd_check_steps ["steps"] (spM g 1 (d_check_steps g.ns))) (b_check_steps : Binds K fd_check_steps ["steps"] []) (g_check_steps : mg "_check_steps" = some (.ref f_check_steps)) (k_check_steps : PySem.W.keepIn K (.ref f_check_steps) = true) : FnOk P w K mg base (L2.CX P w) 4 f fd ["self", "steps", "people"] (spM g 3 (d_p_Staff___init__ g.ns)) :=
  fn_okM B.hx (k := 3) F sc_p_Staff___init__ fun cdv A outer s H E hr hu hp tk =>
      s_cons (s_expr (e_call ok_check_steps (hr.mono (by decide)) rfl g_check_steps k_check_steps b_check_steps tk (l_cons (e_var (i := 1)) (l_nil)) (lC_len (lN_len))))
        (s_cons (s_expr (e_call ok_check_people (hr.mono (by decide)) rfl g_check_people k_check_people b_check_people tk (l_cons (e_var (i := 1)) (l_cons (e_var (i := 2)) (l_nil))) (lC_len (lC_len (lN_len)))))
        (s_cons (s_fldM B.T_Staff B.n_Staff__steps (e_var (i := 0)) (e_callTy (k_lst) (s_lstD B.hK) rfl B.z_list (by decide +kernel) (l_cons (e_var (i := 1)) (l_nil))))
        (s_one (s_fldM B.T_Staff B.n_Staff__people (e_var (i := 0)) (e_lcF (own := [("person", 3)]) rfl sc_p_Staff___init__.nd (wi_seq B.hK (e_var (i := 2))) (blkOk_by (N := N_p_Staff___init__) (sc := defScope st_p_Staff___init__) (by decide +kernel)) (fun _ _ _ _ _ => g_name (i := 3) sc_p_Staff___init__.nd) (fun _ _ _ _ _ => b_yes) (fun _ _ _ _ _ => e_call ok_in_order (hr.mono (by decide)) rfl g_in_order k_in_order b_in_order (takes0) (l_cons (e_var (i := 1)) (l_cons (e_var (i := 3)) (l_nil))) (lC_len (lC_len (lN_len)))) (by decide))))))
theorem ok_p_Staff_names (B : Fx P w K mg base g) {f : Addr} {fd : FuncData} (F : Fun K "names" "Staff.names" st_p_Staff_names f fd) : FnOk P w K mg base (L2.CX P w) 1 f fd ["self"] (spM g 1 (d_p_Staff_names g.ns)) :=
  fn_okP B.hx (k := 0) F sc_p_Staff_names fun cdv A outer s H E hr hu hp tk =>
      s_one (s_ret (e_lcF (own := [("person", 1)]) rfl sc_p_Staff_names.nd (wi_seq B.hK (e_fldD B.T_Staff B.n_Staff__people (e_var (i := 0)))) (blkOk_by (N := N_p_Staff_names) (sc := defScope st_p_Staff_names) (by decide +kernel)) (fun _ _ _ _ _ => g_name (i := 1) sc_p_Staff_names.nd) (fun _ _ _ _ _ => b_yes) (fun _ _ _ _ _ => e_ix (o_ix B.hK) s_ixD (e_var (i := 1)) (e_int)) (by decide)))
theorem ok_p_Staff___contains__ (B : Fx P w K mg base g) {f : Addr} {fd : FuncData} (F : Fun K "__contains__" "Staff.__contains__" st_p_Staff___contains__ f fd) {f_p_Staff_names : Addr} {fd_p_Staff_names : FuncData} (ok_p_Staff_names : FnOk P w K mg base (L2.CX P w) 1 f_p_Staff_names fd_p_Staff_names ["self"] (spM g 1 (d_p_Staff_names g.ns))) (b_p_Staff_names : Binds K fd_p_Staff_names ["self"] []) {pa_p_Staff_names : Addr} (pp_p_Staff_names : PropOf K (g.cl 7) "names" pa_p_Staff_names f_p_Staff_names) : FnOk P w K mg base (L2.CX P w) 3 f fd ["self", "name"] (spM g 2 (d_p_Staff___contains__ g.ns)) :=
  fn_okP B.hx (k := 2) F sc_p_Staff___contains__ fun cdv A outer s H E hr hu hp tk =>
      s_one (s_ret (e_cmp (o_in hu) (s_in B.hK) (e_var (i := 1)) (e_propD B.T_Staff pp_p_Staff_names ok_p_Staff_names (hr.mono (by decide)) b_p_Staff_names rfl (e_var (i := 0)))))
theorem ok_p_Staff_only (B : Fx P w K mg base g) {f : Addr} {fd : FuncData} (F : Fun K "only" "Staff.only" st_p_Staff_only f fd) {f_p_Staff___init__ : Addr} {fd_p_Staff___init__ : FuncData} (ok_p_Staff___init__ : FnOk P w K mg base (L2.CX P w) 4 f_p_Staff___init__ fd_p_Staff___init__ ["self", "steps", "people"] (spM g 3 (d_p_Staff___init__ g.ns))) (b_p_Staff___init__ : Binds K fd_p_Staff___init__ ["self", "steps", "people"] []) (mk_p_Staff___init__ : Mk K (g.cl 7) f_p_Staff___init__) {f_left_to : Addr} {fd_left_to : FuncData} (ok_left_to : FnOk P w K mg base (L2.CX P w) 1 f_left_to fd_left_to ["step", "keeper", "person"] (spM g 3 (d_left_to g.ns))) (b_left_to : Binds K fd_left_to ["step", "keeper", "person"] []) (g_left_to : mg "_left_to" = some (.ref f_left_to)) (k_left_to : PySem.W.keepIn K (.ref f_left_to) = true) {f_p_Staff___contains__ : Addr} {fd_p_Staff___contains__ : FuncData} (ok_p_Staff___contains__ : FnOk P w K mg base (L2.CX P w) 3 f_p_Staff___contains__ fd_p_Staff___contains__ ["self", "name"] (spM g 2 (d_p_Staff___contains__ g.ns))) (b_p_Staff___contains__ : Binds K fd_p_Staff___contains__ ["self", "name"] []) (mt_p_Staff___contains__ : Meth K (g.cl 7) "__contains__" f_p_Staff___contains__) : FnOk P w K mg base (L2.CX P w) 6 f fd ["self", "step", "name"] (spM g 3 (d_p_Staff_only g.ns)) :=
  fn_okP B.hx (k := 5) F sc_p_Staff_only fun cdv A outer s H E hr hu hp tk =>
      s_cons (s_if (t_cmp (o_notin hu) (s_notin B.hK) (e_var (i := 1)) (e_fldD B.T_Staff B.n_Staff__steps (e_var (i := 0)))) (s_one (s_xR (c := 5) rfl tk B.x_NoStep (hr.mono (by decide)) rfl (e_var (i := 1)))) (s_nil))
        (s_cons (s_if (t_cmp (o_notinOwn mt_p_Staff___contains__ ok_p_Staff___contains__ (hr.mono (by decide)) b_p_Staff___contains__ ) s_inOwn (e_var (i := 2)) (e_var (i := 0))) (s_one (s_xR (c := 6) rfl tk B.x_NoPerson (hr.mono (by decide)) rfl (e_var (i := 2)))) (s_nil))
        (s_one (s_ret (e_makeD B.hx mk_p_Staff___init__ ok_p_Staff___init__ (hr.mono (by decide)) rfl B.m_Staff b_p_Staff___init__ tk (l_cons (e_fldD B.T_Staff B.n_Staff__steps (e_var (i := 0))) (l_cons (e_lcF (own := [("person", 3)]) rfl sc_p_Staff_only.nd (wi_seq B.hK (e_fldD B.T_Staff B.n_Staff__people (e_var (i := 0)))) (blkOk_by (N := N_p_Staff_only) (sc := defScope st_p_Staff_only) (by decide +kernel)) (fun _ _ _ _ _ => g_name (i := 3) sc_p_Staff_only.nd) (fun _ _ _ _ _ => b_yes) (fun _ _ _ _ _ => e_call ok_left_to (hr.mono (by decide)) rfl g_left_to k_left_to b_left_to (takes0) (l_cons (e_var (i := 1)) (l_cons (e_var (i := 2)) (l_cons (e_var (i := 3)) (l_nil)))) (lC_len (lC_len (lC_len (lN_len))))) (by decide)) (l_nil))) (len1 (lC_len (lC_len (lN_len))))))))
theorem ok_p_Staff_without (B : Fx P w K mg base g) {f : Addr} {fd : FuncData} (F : Fun K "without" "Staff.without" st_p_Staff_without f fd) {f_p_Staff___init__ : Addr} {fd_p_Staff___init__ : FuncData} (ok_p_Staff___init__ : FnOk P w K mg base (L2.CX P w) 4 f_p_Staff___init__ fd_p_Staff___init__ ["self", "steps", "people"] (spM g 3 (d_p_Staff___init__ g.ns))) (b_p_Staff___init__ : Binds K fd_p_Staff___init__ ["self", "steps", "people"] []) (mk_p_Staff___init__ : Mk K (g.cl 7) f_p_Staff___init__) {f_p_Staff___contains__ : Addr} {fd_p_Staff___contains__ : FuncData} (ok_p_Staff___contains__ : FnOk P w K mg base (L2.CX P w) 3 f_p_Staff___contains__ fd_p_Staff___contains__ ["self", "name"] (spM g 2 (d_p_Staff___contains__ g.ns))) (b_p_Staff___contains__ : Binds K fd_p_Staff___contains__ ["self", "name"] []) (mt_p_Staff___contains__ : Meth K (g.cl 7) "__contains__" f_p_Staff___contains__) : FnOk P w K mg base (L2.CX P w) 6 f fd ["self", "names"] (spM g 2 (d_p_Staff_without g.ns)) :=
  fn_okP B.hx (k := 5) F sc_p_Staff_without fun cdv A outer s H E hr hu hp tk =>
      s_cons (s_if (t_not (t_val (e_isi (T := "list") B.hK rfl B.z_isinstance rfl B.z_list (by decide +kernel) (e_var (i := 1))))) (s_one (s_raise0 (c := 1) rfl tk B.x_NoList rfl)) (s_nil))
        (s_cons (s_forF hp rfl (wi_seq B.hK (e_var (i := 1))) (g_name (i := 2) sc_p_Staff_without.nd) (s_one (s_if (t_cmp (o_notinOwn mt_p_Staff___contains__ ok_p_Staff___contains__ (hr.mono (by decide)) b_p_Staff___contains__ ) s_inOwn (e_var (i := 2)) (e_var (i := 0))) (s_one (s_xR (c := 6) rfl tk B.x_NoPerson (hr.mono (by decide)) rfl (e_var (i := 2)))) (s_nil))))
        (s_one (s_ret (e_makeD B.hx mk_p_Staff___init__ ok_p_Staff___init__ (hr.mono (by decide)) rfl B.m_Staff b_p_Staff___init__ tk (l_cons (e_fldD B.T_Staff B.n_Staff__steps (e_var (i := 0))) (l_cons (e_lcF (own := [("person", 3)]) rfl sc_p_Staff_without.nd (wi_seq B.hK (e_fldD B.T_Staff B.n_Staff__people (e_var (i := 0)))) (blkOk_by (N := N_p_Staff_without) (sc := defScope st_p_Staff_without) (by decide +kernel)) (fun _ _ _ _ _ => g_name (i := 3) sc_p_Staff_without.nd) (fun _ _ _ _ _ => b_one (t_cmp (o_notin hu) (s_notin B.hK) (e_ix (o_ix B.hK) s_ixD (e_var (i := 3)) (e_int)) (e_var (i := 1)))) (fun _ _ _ _ _ => e_var (i := 3)) (by decide)) (l_nil))) (len1 (lC_len (lC_len (lN_len))))))))
theorem ok_p_Staff_able (B : Fx P w K mg base g) {f : Addr} {fd : FuncData} (F : Fun K "able" "Staff.able" st_p_Staff_able f fd) : FnOk P w K mg base (L2.CX P w) 3 f fd ["self", "step"] (spM g 2 (d_p_Staff_able g.ns)) :=
  fn_okP B.hx (k := 2) F sc_p_Staff_able fun cdv A outer s H E hr hu hp tk =>
      s_cons (s_if (t_cmp (o_notin hu) (s_notin B.hK) (e_var (i := 1)) (e_fldD B.T_Staff B.n_Staff__steps (e_var (i := 0)))) (s_one (s_xR (c := 5) rfl tk B.x_NoStep (hr.mono (by decide)) rfl (e_var (i := 1)))) (s_nil))
        (s_one (s_ret (e_lcF (own := [("person", 2)]) rfl sc_p_Staff_able.nd (wi_seq B.hK (e_fldD B.T_Staff B.n_Staff__people (e_var (i := 0)))) (blkOk_by (N := N_p_Staff_able) (sc := defScope st_p_Staff_able) (by decide +kernel)) (fun _ _ _ _ _ => g_name (i := 2) sc_p_Staff_able.nd) (fun _ _ _ _ _ => b_one (t_cmp (o_in hu) (s_in B.hK) (e_var (i := 1)) (e_ix (o_ix B.hK) s_ixD (e_var (i := 2)) (e_int)))) (fun _ _ _ _ _ => e_ix (o_ix B.hK) s_ixD (e_var (i := 2)) (e_int)) (by decide))))
theorem ok_p_Staff__person (B : Fx P w K mg base g) {f : Addr} {fd : FuncData} (F : Fun K "_person" "Staff._person" st_p_Staff__person f fd) : FnOk P w K mg base (L2.CX P w) 3 f fd ["self", "name"] (spM g 2 (d_p_Staff__person g.ns)) :=
  fn_okP B.hx (k := 2) F sc_p_Staff__person fun cdv A outer s H E hr hu hp tk =>
      s_cons (s_forF hp rfl (wi_seq B.hK (e_fldD B.T_Staff B.n_Staff__people (e_var (i := 0)))) (g_name (i := 2) sc_p_Staff__person.nd) (s_one (s_if (t_cmp (op_eqD (lt64 hu)) (s_eq B.hK) (e_ix (o_ix B.hK) s_ixD (e_var (i := 2)) (e_int)) (e_var (i := 1))) (s_one (s_ret (e_var (i := 2)))) (s_nil))))
        (s_one (s_xR (c := 6) rfl tk B.x_NoPerson (hr.mono (by decide)) rfl (e_var (i := 1))))
theorem ok_p_Staff_list_of (B : Fx P w K mg base g) {f : Addr} {fd : FuncData} (F : Fun K "list_of" "Staff.list_of" st_p_Staff_list_of f fd) {f_p_Staff__person : Addr} {fd_p_Staff__person : FuncData} (ok_p_Staff__person : FnOk P w K mg base (L2.CX P w) 3 f_p_Staff__person fd_p_Staff__person ["self", "name"] (spM g 2 (d_p_Staff__person g.ns))) (b_p_Staff__person : Binds K fd_p_Staff__person ["self", "name"] []) (mt_p_Staff__person : Meth K (g.cl 7) "_person" f_p_Staff__person) : FnOk P w K mg base (L2.CX P w) 4 f fd ["self", "name"] (spM g 2 (d_p_Staff_list_of g.ns)) :=
  fn_okP B.hx (k := 3) F sc_p_Staff_list_of fun cdv A outer s H E hr hu hp tk =>
      s_one (s_ret (e_ix (o_ix B.hK) s_ixD (e_methD B.T_Staff mt_p_Staff__person ok_p_Staff__person (hr.mono (by decide)) b_p_Staff__person tk (e_var (i := 0)) (l_cons (e_var (i := 1)) (l_nil)) (len1 (lC_len (lN_len)))) (e_int)))
theorem ok_p_Staff_group (B : Fx P w K mg base g) {f : Addr} {fd : FuncData} (F : Fun K "group" "Staff.group" st_p_Staff_group f fd) {f_p_Staff__person : Addr} {fd_p_Staff__person : FuncData} (ok_p_Staff__person : FnOk P w K mg base (L2.CX P w) 3 f_p_Staff__person fd_p_Staff__person ["self", "name"] (spM g 2 (d_p_Staff__person g.ns))) (b_p_Staff__person : Binds K fd_p_Staff__person ["self", "name"] []) (mt_p_Staff__person : Meth K (g.cl 7) "_person" f_p_Staff__person) : FnOk P w K mg base (L2.CX P w) 4 f fd ["self", "name"] (spM g 2 (d_p_Staff_group g.ns)) :=
  fn_okP B.hx (k := 3) F sc_p_Staff_group fun cdv A outer s H E hr hu hp tk =>
      s_one (s_ret (e_ix (o_ix B.hK) s_ixD (e_methD B.T_Staff mt_p_Staff__person ok_p_Staff__person (hr.mono (by decide)) b_p_Staff__person tk (e_var (i := 0)) (l_cons (e_var (i := 1)) (l_nil)) (len1 (lC_len (lN_len)))) (e_int)))
theorem ok_law_asked (B : Fx P w K mg base g) {f : Addr} {fd : FuncData} (F : Fun K "_law_asked" "_law_asked" st_law_asked f fd) {f_p_Staff_only : Addr} {fd_p_Staff_only : FuncData} (ok_p_Staff_only : FnOk P w K mg base (L2.CX P w) 6 f_p_Staff_only fd_p_Staff_only ["self", "step", "name"] (spM g 3 (d_p_Staff_only g.ns))) (b_p_Staff_only : Binds K fd_p_Staff_only ["self", "step", "name"] []) (mt_p_Staff_only : Meth K (g.cl 7) "only" f_p_Staff_only) {f_p_Staff_without : Addr} {fd_p_Staff_without : FuncData} (ok_p_Staff_without : FnOk P w K mg base (L2.CX P w) 6 f_p_Staff_without fd_p_Staff_without ["self", "names"] (spM g 2 (d_p_Staff_without g.ns))) (b_p_Staff_without : Binds K fd_p_Staff_without ["self", "names"] []) (mt_p_Staff_without : Meth K (g.cl 7) "without" f_p_Staff_without) {f_p_Staff_able : Addr} {fd_p_Staff_able : FuncData} (ok_p_Staff_able : FnOk P w K mg base (L2.CX P w) 3 f_p_Staff_able fd_p_Staff_able ["self", "step"] (spM g 2 (d_p_Staff_able g.ns))) (b_p_Staff_able : Binds K fd_p_Staff_able ["self", "step"] []) (mt_p_Staff_able : Meth K (g.cl 7) "able" f_p_Staff_able) {f_p_Staff_list_of : Addr} {fd_p_Staff_list_of : FuncData} (ok_p_Staff_list_of : FnOk P w K mg base (L2.CX P w) 4 f_p_Staff_list_of fd_p_Staff_list_of ["self", "name"] (spM g 2 (d_p_Staff_list_of g.ns))) (b_p_Staff_list_of : Binds K fd_p_Staff_list_of ["self", "name"] []) (mt_p_Staff_list_of : Meth K (g.cl 7) "list_of" f_p_Staff_list_of) {f_p_Staff_group : Addr} {fd_p_Staff_group : FuncData} (ok_p_Staff_group : FnOk P w K mg base (L2.CX P w) 4 f_p_Staff_group fd_p_Staff_group ["self", "name"] (spM g 2 (d_p_Staff_group g.ns))) (b_p_Staff_group : Binds K fd_p_Staff_group ["self", "name"] []) (mt_p_Staff_group : Meth K (g.cl 7) "group" f_p_Staff_group) : FnG P w K mg base 7 f fd ["staff", "nth", "value", "other"] (spM g 4 (d_law_asked g.ns)) :=
  fn_okPG B.hx (k := 6) F sc_law_asked fun cdv A outer s H E hgd hr hu hp tk =>
      s_cons (s_tryM B.hx rfl rfl sc_law_asked.nd tk (fun W1 pn xe tk1 hp1 => s_cons (s_if (t_cmp (op_eqD (lt64 hu)) (s_eq B.hK) (e_var (i := 1)) (e_int)) (s_one (s_expr (e_methD B.T_Staff mt_p_Staff_group ok_p_Staff_group (hr.mono (by decide)) b_p_Staff_group tk1 (e_var (i := 0)) (l_cons (e_var (i := 2)) (l_nil)) (len1 (lC_len (lN_len)))))) (s_nil))
        (s_cons (s_if (t_cmp (op_eqD (lt64 hu)) (s_eq B.hK) (e_var (i := 1)) (e_int)) (s_one (s_expr (e_methD B.T_Staff mt_p_Staff_list_of ok_p_Staff_list_of (hr.mono (by decide)) b_p_Staff_list_of tk1 (e_var (i := 0)) (l_cons (e_var (i := 2)) (l_nil)) (len1 (lC_len (lN_len)))))) (s_nil))
        (s_cons (s_if (t_cmp (op_eqD (lt64 hu)) (s_eq B.hK) (e_var (i := 1)) (e_int)) (s_one (s_expr (e_methD B.T_Staff mt_p_Staff_able ok_p_Staff_able (hr.mono (by decide)) b_p_Staff_able tk1 (e_var (i := 0)) (l_cons (e_var (i := 2)) (l_nil)) (len1 (lC_len (lN_len)))))) (s_nil))
        (s_cons (s_if (t_cmp (op_eqD (lt64 hu)) (s_eq B.hK) (e_var (i := 1)) (e_int)) (s_one (s_expr (e_methD B.T_Staff mt_p_Staff_without ok_p_Staff_without (hr.mono (by decide)) b_p_Staff_without tk1 (e_var (i := 0)) (l_cons (e_var (i := 2)) (l_nil)) (len1 (lC_len (lN_len)))))) (s_nil))
        (s_one (s_if (t_cmp (op_eqD (lt64 hu)) (s_eq B.hK) (e_var (i := 1)) (e_int)) (s_one (s_expr (e_methD B.T_Staff mt_p_Staff_only ok_p_Staff_only (hr.mono (by decide)) b_p_Staff_only tk1 (e_var (i := 0)) (l_cons (e_var (i := 2)) (l_cons (e_var (i := 3)) (l_nil))) (len1 (lC_len (lC_len (lN_len))))))) (s_nil))))))) (.one (tks := tk0 7 fun c => c == 1 || 1 == 0) (cv := .ref (g.cl 1)) ⟨rfl, by decide, .inl B.m_NoList⟩ (fun c k h => by obtain ⟨hc, rfl⟩ := tk0_ok h; exact B.q_NoList c hc) (fun a pn => s_one (s_ret (e_tupD (l_cons (e_str) (l_cons (e_str) (l_nil))))))
        (.named (tks := tk0 7 fun c => c == 6 || 6 == 0) (cv := .ref (g.cl 6)) (i := 4) rfl rfl ⟨rfl, by decide, .inl B.m_NoPerson⟩ (fun c k h => by obtain ⟨hc, rfl⟩ := tk0_ok h; exact B.q_NoPerson c hc) (fun a oe c dd f pn ht hz hf => s_one (s_ret (e_tupD (l_cons (e_str) (l_cons (e_callB (call_reprD hgd hu) (s_repr B.hK) rfl B.z_repr (by decide +kernel) (l_cons (e_xfT (by decide) ht B.xf_NoPerson B.nx_NoPerson hz hf (e_var (i := 4))) (l_nil))) (l_nil))))))
        (.named (tks := tk0 7 fun c => c == 5 || 5 == 0) (cv := .ref (g.cl 5)) (i := 4) rfl rfl ⟨rfl, by decide, .inl B.m_NoStep⟩ (fun c k h => by obtain ⟨hc, rfl⟩ := tk0_ok h; exact B.q_NoStep c hc) (fun a oe c dd f pn ht hz hf => s_one (s_ret (e_tupD (l_cons (e_str) (l_cons (e_callB (call_reprD hgd hu) (s_repr B.hK) rfl B.z_repr (by decide +kernel) (l_cons (e_xfT (by decide) ht B.xf_NoStep B.nx_NoStep hz hf (e_var (i := 4))) (l_nil))) (l_nil))))))
        (.nil)))))
        (s_one (s_ret (e_non)))
theorem ok_law_made (B : Fx P w K mg base g) {f : Addr} {fd : FuncData} (F : Fun K "_law_made" "_law_made" st_law_made f fd) {f_p_Staff___init__ : Addr} {fd_p_Staff___init__ : FuncData} (ok_p_Staff___init__ : FnOk P w K mg base (L2.CX P w) 4 f_p_Staff___init__ fd_p_Staff___init__ ["self", "steps", "people"] (spM g 3 (d_p_Staff___init__ g.ns))) (b_p_Staff___init__ : Binds K fd_p_Staff___init__ ["self", "steps", "people"] []) (mk_p_Staff___init__ : Mk K (g.cl 7) f_p_Staff___init__) : FnOk P w K mg base (L2.CX P w) 6 f fd ["steps", "people"] (spM g 2 (d_law_made g.ns)) :=
  fn_okP B.hx (k := 5) F sc_law_made fun cdv A outer s H E hr hu hp tk =>
      s_cons (s_tryM B.hx rfl rfl sc_law_made.nd tk (fun W1 pn xe tk1 hp1 => s_one (s_expr (e_makeD B.hx mk_p_Staff___init__ ok_p_Staff___init__ (hr.mono (by decide)) rfl B.m_Staff b_p_Staff___init__ tk1 (l_cons (e_var (i := 0)) (l_cons (e_var (i := 1)) (l_nil))) (len1 (lC_len (lC_len (lN_len))))))) (.one (tks := tk0 7 fun c => c == 1 || 1 == 0) (cv := .ref (g.cl 1)) ⟨rfl, by decide, .inl B.m_NoList⟩ (fun c k h => by obtain ⟨hc, rfl⟩ := tk0_ok h; exact B.q_NoList c hc) (fun a pn => s_one (s_ret (e_tupD (l_cons (e_str) (l_cons (e_int) (l_nil))))))
        (.named (tks := tk0 7 fun c => c == 3 || 3 == 0) (cv := .ref (g.cl 3)) (i := 2) rfl rfl ⟨rfl, by decide, .inl B.m_BadStep⟩ (fun c k h => by obtain ⟨hc, rfl⟩ := tk0_ok h; exact B.q_BadStep c hc) (fun a oe c dd f pn ht hz hf => s_one (s_ret (e_tupD (l_cons (e_str) (l_cons (e_xfT (by decide) ht B.xf_BadStep B.nx_BadStep hz hf (e_var (i := 2))) (l_nil))))))
        (.one (tks := tk0 7 fun c => c == 2 || 2 == 0) (cv := .ref (g.cl 2)) ⟨rfl, by decide, .inl B.m_BadCount⟩ (fun c k h => by obtain ⟨hc, rfl⟩ := tk0_ok h; exact B.q_BadCount c hc) (fun a pn => s_one (s_ret (e_tupD (l_cons (e_str) (l_cons (e_int) (l_nil))))))
        (.named (tks := tk0 7 fun c => c == 4 || 4 == 0) (cv := .ref (g.cl 4)) (i := 2) rfl rfl ⟨rfl, by decide, .inl B.m_BadPerson⟩ (fun c k h => by obtain ⟨hc, rfl⟩ := tk0_ok h; exact B.q_BadPerson c hc) (fun a oe c dd f pn ht hz hf => s_one (s_ret (e_tupD (l_cons (e_str) (l_cons (e_xfT (by decide) ht B.xf_BadPerson B.nx_BadPerson hz hf (e_var (i := 2))) (l_nil))))))
        (.nil))))))
        (s_one (s_ret (e_non)))
theorem ok_law_odd_people (B : Fx P w K mg base g) {f : Addr} {fd : FuncData} (F : Fun K "_law_odd_people" "_law_odd_people" st_law_odd_people f fd) : FnOk P w K mg base (L2.CX P w) 1 f fd ["steps", "name"] (spM g 2 (d_law_odd_people g.ns)) :=
  fn_okP B.hx (k := 0) F sc_law_odd_people fun cdv A outer s H E hr hu hp tk =>
      s_cons (s_par (i := 3) (j := 4) rfl sc_law_odd_people.nd (l_cons (e_callTy (call_tupX) (s_tupD B.hK) rfl B.z_tuple (by decide +kernel) (l_cons (e_var (i := 0)) (l_nil))) (l_cons (e_ix (o_ix B.hK) s_ixD (e_var (i := 0)) (e_int)) (l_nil))))
        (s_cons (s_set (i := 2) sc_law_odd_people.nd (e_lstD (l_cons (e_non) (l_cons (e_tupD (l_nil)) (l_cons (e_tupD (l_cons (e_var (i := 1)) (l_nil))) (l_cons (e_tupD (l_cons (e_var (i := 1)) (l_cons (e_str) (l_nil)))) (l_cons (e_tupD (l_cons (e_var (i := 1)) (l_cons (e_str) (l_cons (e_var (i := 3)) (l_cons (e_int) (l_nil)))))) (l_cons (e_lstD (l_cons (e_var (i := 1)) (l_cons (e_str) (l_cons (e_var (i := 3)) (l_nil))))) (l_nil)))))))))
        (s_cons (s_set (i := 2) sc_law_odd_people.nd (e_op o_add (s_addD B.hK) (e_var (i := 2)) (e_lstD (l_cons (e_tupD (l_cons (e_str) (l_cons (e_str) (l_cons (e_var (i := 3)) (l_nil))))) (l_cons (e_int) (l_nil))))))
        (s_cons (s_set (i := 2) sc_law_odd_people.nd (e_op o_add (s_addD B.hK) (e_var (i := 2)) (e_lstD (l_cons (e_tupD (l_cons (e_str) (l_cons (e_str) (l_cons (e_var (i := 3)) (l_nil))))) (l_cons (e_tupD (l_cons (e_var (i := 1)) (l_cons (e_str) (l_cons (e_var (i := 3)) (l_nil))))) (l_cons (e_tupD (l_cons (e_var (i := 1)) (l_cons (e_str) (l_cons (e_var (i := 3)) (l_nil))))) (l_nil)))))))
        (s_cons (s_set (i := 2) sc_law_odd_people.nd (e_op o_add (s_addD B.hK) (e_var (i := 2)) (e_lstD (l_cons (e_tupD (l_cons (e_var (i := 1)) (l_cons (e_str) (l_cons (e_callTy (k_lst) (s_lstD B.hK) rfl B.z_list (by decide +kernel) (l_cons (e_var (i := 3)) (l_nil))) (l_nil))))) (l_cons (e_tupD (l_cons (e_var (i := 1)) (l_cons (e_str) (l_cons (e_non) (l_nil))))) (l_nil))))))
        (s_cons (s_set (i := 2) sc_law_odd_people.nd (e_op o_add (s_addD B.hK) (e_var (i := 2)) (e_lstD (l_cons (e_tupD (l_cons (e_var (i := 1)) (l_cons (e_str) (l_cons (e_tupD (l_cons (e_var (i := 4)) (l_cons (e_var (i := 4)) (l_nil)))) (l_nil))))) (l_cons (e_tupD (l_cons (e_var (i := 1)) (l_cons (e_str) (l_cons (e_op o_add (s_addD B.hK) (e_var (i := 3)) (e_tupD (l_cons (e_str) (l_nil)))) (l_nil))))) (l_nil))))))
        (s_cons (s_set (i := 2) sc_law_odd_people.nd (e_op o_add (s_addD B.hK) (e_var (i := 2)) (e_lstD (l_cons (e_tupD (l_cons (e_var (i := 1)) (l_cons (e_str) (l_cons (e_tupD (l_cons (e_int) (l_nil))) (l_nil))))) (l_cons (e_tupD (l_cons (e_var (i := 1)) (l_cons (e_str) (l_cons (e_var (i := 4)) (l_nil))))) (l_nil))))))
        (s_cons (s_set (i := 2) sc_law_odd_people.nd (e_op o_add (s_addD B.hK) (e_var (i := 2)) (e_lstD (l_cons (e_tupD (l_cons (e_var (i := 1)) (l_cons (e_str) (l_cons (e_var (i := 3)) (l_nil))))) (l_cons (e_tupD (l_cons (e_var (i := 1)) (l_cons (e_str) (l_cons (e_var (i := 3)) (l_nil))))) (l_cons (e_tupD (l_cons (e_var (i := 1)) (l_cons (e_str) (l_cons (e_var (i := 3)) (l_nil))))) (l_cons (e_tupD (l_cons (e_var (i := 1)) (l_cons (e_str) (l_cons (e_var (i := 3)) (l_nil))))) (l_nil))))))))
        (s_cons (s_set (i := 2) sc_law_odd_people.nd (e_op o_add (s_addD B.hK) (e_var (i := 2)) (e_lstD (l_cons (e_tupD (l_cons (e_var (i := 1)) (l_cons (e_lstD (l_cons (e_str) (l_nil))) (l_cons (e_var (i := 3)) (l_nil))))) (l_nil)))))
        (s_cons (s_set (i := 2) sc_law_odd_people.nd (e_op o_add (s_addD B.hK) (e_var (i := 2)) (e_lstD (l_cons (e_tupD (l_cons (e_lstD (l_cons (e_str) (l_nil))) (l_cons (e_str) (l_cons (e_var (i := 3)) (l_nil))))) (l_cons (e_tupD (l_cons (e_tupD (l_cons (e_str) (l_nil))) (l_cons (e_str) (l_cons (e_var (i := 3)) (l_nil))))) (l_cons (e_tupD (l_cons (e_var (i := 1)) (l_cons (e_str) (l_cons (e_op o_add (s_addD B.hK) (e_var (i := 3)) (e_sliceD B.hK (e_var (i := 3)) (o_none) (o_some (e_int)))) (l_nil))))) (l_nil)))))))
        (s_cons (s_set (i := 2) sc_law_odd_people.nd (e_op o_add (s_addD B.hK) (e_var (i := 2)) (e_lstD (l_cons (e_tupD (l_cons (e_var (i := 1)) (l_cons (e_str) (l_cons (e_op o_add (s_addD B.hK) (e_sliceD B.hK (e_var (i := 3)) (o_none) (o_some (e_int))) (e_var (i := 3))) (l_nil))))) (l_nil)))))
        (s_cons (s_set (i := 2) sc_law_odd_people.nd (e_op o_add (s_addD B.hK) (e_var (i := 2)) (e_lstD (l_cons (e_tupD (l_cons (e_op o_mulS (s_mulS B.hK) (e_str) (e_int)) (l_cons (e_str) (l_cons (e_var (i := 3)) (l_nil))))) (l_cons (e_tupD (l_cons (e_var (i := 1)) (l_cons (e_op o_mulS (s_mulS B.hK) (e_str) (e_int)) (l_cons (e_var (i := 3)) (l_nil))))) (l_cons (e_tupD (l_cons (e_non) (l_cons (e_str) (l_cons (e_var (i := 3)) (l_nil))))) (l_nil)))))))
        (s_cons (s_set (i := 2) sc_law_odd_people.nd (e_op o_add (s_addD B.hK) (e_var (i := 2)) (e_lstD (l_cons (e_tupD (l_cons (e_var (i := 1)) (l_cons (e_non) (l_cons (e_var (i := 3)) (l_nil))))) (l_cons (e_tupD (l_cons (e_str) (l_cons (e_str) (l_cons (e_tupD (l_nil)) (l_nil))))) (l_nil))))))
        (s_cons (s_set (i := 2) sc_law_odd_people.nd (e_op o_add (s_addD B.hK) (e_var (i := 2)) (e_lstD (l_cons (e_tupD (l_cons (e_var (i := 1)) (l_cons (e_str) (l_cons (e_tupD (l_cons (e_lstD (l_cons (e_var (i := 4)) (l_nil))) (l_nil))) (l_nil))))) (l_cons (e_tupD (l_cons (e_str) (l_cons (e_str) (l_cons (e_tupD (l_nil)) (l_nil))))) (l_cons (e_tupD (l_cons (e_var (i := 1)) (l_cons (e_int) (l_cons (e_var (i := 3)) (l_nil))))) (l_nil)))))))
        (s_one (s_ret (e_op o_add (s_addD B.hK) (e_var (i := 2)) (e_lstD (l_cons (e_tupD (l_cons (e_bl) (l_cons (e_str) (l_cons (e_var (i := 3)) (l_nil))))) (l_cons (e_tupD (l_cons (e_var (i := 1)) (l_cons (e_str) (l_cons (e_tupD (l_cons (e_non) (l_nil))) (l_nil))))) (l_nil))))))))))))))))))))
theorem ok_law_doubles_right (B : Fx P w K mg base g) {f : Addr} {fd : FuncData} (F : Fun K "_law_doubles_right" "_law_doubles_right" st_law_doubles_right f fd) {f_law_made : Addr} {fd_law_made : FuncData} (ok_law_made : FnOk P w K mg base (L2.CX P w) 6 f_law_made fd_law_made ["steps", "people"] (spM g 2 (d_law_made g.ns))) (b_law_made : Binds K fd_law_made ["steps", "people"] []) (g_law_made : mg "_law_made" = some (.ref f_law_made)) (k_law_made : PySem.W.keepIn K (.ref f_law_made) = true) : FnOk P w K mg base (L2.CX P w) 7 f fd ["feed", "steps"] (spM g 2 (d_law_doubles_right g.ns)) :=
  fn_okM B.hx (k := 6) F sc_law_doubles_right fun cdv A outer s H E hr hu hp tk =>
      s_cons (s_forF hp rfl (wi_range1 rfl B.z_range (l_cons (e_callB (k_len B.hK) s_lenD rfl B.z_len (by decide +kernel) (l_cons (e_var (i := 1)) (l_nil))) (l_nil))) (g_name (i := 2) sc_law_doubles_right.nd) (s_one (s_forF hp rfl (wi_seq B.hK (e_tupD (l_cons (e_op o_add (s_addD B.hK) (e_var (i := 1)) (e_lstD (l_cons (e_ix (o_ix B.hK) s_ixD (e_var (i := 1)) (e_var (i := 2))) (l_nil)))) (l_cons (e_op o_add (s_addD B.hK) (e_sliceD B.hK (e_var (i := 1)) (o_none) (o_some (e_op o_add (s_addD B.hK) (e_var (i := 2)) (e_int)))) (e_sliceD B.hK (e_var (i := 1)) (o_some (e_var (i := 2))) (o_none))) (l_cons (e_op o_add (s_addD B.hK) (e_sliceD B.hK (e_var (i := 1)) (o_some (e_var (i := 2))) (o_none)) (e_sliceD B.hK (e_var (i := 1)) (o_none) (o_some (e_op o_add (s_addD B.hK) (e_var (i := 2)) (e_int))))) (l_nil)))))) (g_name (i := 3) sc_law_doubles_right.nd) (s_cons (s_set (i := 4) sc_law_doubles_right.nd (e_ix (o_ix B.hK) s_ixD (e_lcF (own := [("to", 5)]) rfl sc_law_doubles_right.nd (wi_range1 rfl B.z_range (l_cons (e_callB (k_len B.hK) s_lenD rfl B.z_len (by decide +kernel) (l_cons (e_var (i := 3)) (l_nil))) (l_nil))) (blkOk_by (N := N_law_doubles_right) (sc := defScope st_law_doubles_right) (by decide +kernel)) (fun _ _ _ _ _ => g_name (i := 5) sc_law_doubles_right.nd) (fun _ _ _ _ _ => b_one (t_cmp (o_in hu) (s_in B.hK) (e_ix (o_ix B.hK) s_ixD (e_var (i := 3)) (e_var (i := 5))) (e_sliceD B.hK (e_var (i := 3)) (o_none) (o_some (e_var (i := 5)))))) (fun _ _ _ _ _ => e_var (i := 5)) (by decide)) (e_int)))
        (s_one (s_if (PW.pt (w_and (t_cmp op_lt s_lt (e_var (i := 4)) (e_int)) (w_and1 (t_cmp (op_neD (lt64 hu)) (s_ne B.hK) (e_call ok_law_made (hr.mono (by decide)) rfl g_law_made k_law_made b_law_made tk (l_cons (e_op o_add (s_addD B.hK) (e_var (i := 3)) (e_lstD (l_cons (e_non) (l_nil)))) (l_cons (e_lstD (l_nil)) (l_nil))) (lC_len (lC_len (lN_len)))) (e_tupD (l_cons (e_str) (l_cons (e_var (i := 4)) (l_nil)))))))) (s_one (s_ret (e_bl))) (s_nil)))))))
        (s_one (s_ret (e_bl)))
theorem ok_law_take (B : Fx P w K mg base g) {f : Addr} {fd : FuncData} (F : Fun K "_law_take" "_law_take" st_law_take f fd) : FnOk P w K mg base (L2.CX P w) 1 f fd ["feed", "bound"] (spM g 2 (d_law_take g.ns)) :=
  fn_okM B.hx (k := 0) F sc_law_take fun cdv A outer s H E hr hu hp tk =>
      s_cons (s_if (t_cmp op_gt s_gt (e_ix (o_ix B.hK) s_ixD (e_var (i := 0)) (e_int)) (e_int)) (s_cons (s_set (i := 2) sc_law_take.nd (e_op op_mod s_mod (e_callTy (call_int1) s_int rfl B.z_int (by decide +kernel) (l_cons (e_ix (o_ix B.hK) s_ixD (e_var (i := 0)) (e_int)) (l_nil))) (e_var (i := 1))))
        (s_cons (s_put (e_var (i := 0)) (e_int) (e_op op_fdiv s_div (e_ix (o_ix B.hK) s_ixD (e_var (i := 0)) (e_int)) (e_var (i := 1))))
        (s_one (s_ret (e_var (i := 2)))))) (s_nil))
        (s_cons (s_put (e_var (i := 0)) (e_int) (e_op op_mod s_mod (e_callTy (call_int1) s_int rfl B.z_int (by decide +kernel) (l_cons (e_op o_add (s_addD B.hK) (e_op o_mulE (s_mulE B.hK) (e_ix (o_ix B.hK) s_ixD (e_var (i := 0)) (e_int)) (e_int)) (e_int)) (l_nil))) (e_int)))
        (s_one (s_ret (e_op op_mod s_mod (e_callTy (call_int1) s_int rfl B.z_int (by decide +kernel) (l_cons (e_op op_fdiv s_div (e_ix (o_ix B.hK) s_ixD (e_var (i := 0)) (e_int)) (e_int)) (l_nil))) (e_var (i := 1))))))
theorem ok_law_steps_refused (B : Fx P w K mg base g) {f : Addr} {fd : FuncData} (F : Fun K "_law_steps_refused" "_law_steps_refused" st_law_steps_refused f fd) {f_law_made : Addr} {fd_law_made : FuncData} (ok_law_made : FnOk P w K mg base (L2.CX P w) 6 f_law_made fd_law_made ["steps", "people"] (spM g 2 (d_law_made g.ns))) (b_law_made : Binds K fd_law_made ["steps", "people"] []) (g_law_made : mg "_law_made" = some (.ref f_law_made)) (k_law_made : PySem.W.keepIn K (.ref f_law_made) = true) {f_law_take : Addr} {fd_law_take : FuncData} (ok_law_take : FnOk P w K mg base (L2.CX P w) 1 f_law_take fd_law_take ["feed", "bound"] (spM g 2 (d_law_take g.ns))) (b_law_take : Binds K fd_law_take ["feed", "bound"] []) (g_law_take : mg "_law_take" = some (.ref f_law_take)) (k_law_take : PySem.W.keepIn K (.ref f_law_take) = true) : FnG P w K mg base 7 f fd ["feed", "steps"] (spM g 2 (d_law_steps_refused g.ns)) :=
  fn_okMG B.hx (k := 6) F sc_law_steps_refused fun cdv A outer s H E hgd hr hu hp tk =>
      s_cons (s_set (i := 2) sc_law_steps_refused.nd (e_call ok_law_take (hr.mono (by decide)) rfl g_law_take k_law_take b_law_take tk (l_cons (e_var (i := 0)) (l_cons (e_op o_add (s_addD B.hK) (e_callB (k_len B.hK) s_lenD rfl B.z_len (by decide +kernel) (l_cons (e_var (i := 1)) (l_nil))) (e_int)) (l_nil))) (lC_len (lC_len (lN_len)))))
        (s_cons (s_forF hp rfl (wi_seq B.hK (e_op o_add (s_addD B.hK) (e_lstD (l_cons (e_non) (l_cons (e_str) (l_cons (e_str) (l_cons (e_str) (l_cons (e_op o_mulS (s_mulS B.hK) (e_str) (e_int)) (l_cons (e_int) (l_cons (e_lstD (l_nil)) (l_cons (e_tupD (l_cons (e_str) (l_nil))) (l_cons (e_str) (l_cons (e_bl) (l_nil)))))))))))) (e_sliceD B.hK (e_sliceD B.hK (e_var (i := 1)) (o_none) (o_some (e_var (i := 2)))) (o_none) (o_some (e_int))))) (g_name (i := 3) sc_law_steps_refused.nd) (s_cons (s_set (i := 5) sc_law_steps_refused.nd (e_op o_add (s_addD B.hK) (e_op o_add (s_addD B.hK) (e_op o_add (s_addD B.hK) (e_sliceD B.hK (e_var (i := 1)) (o_none) (o_some (e_var (i := 2)))) (e_lstD (l_cons (e_var (i := 3)) (l_nil)))) (e_sliceD B.hK (e_var (i := 1)) (o_some (e_var (i := 2))) (o_none))) (e_lstD (l_cons (e_non) (l_nil)))))
        (s_cons (s_set (i := 6) sc_law_steps_refused.nd (e_callB (call_reprD hgd hu) (s_repr B.hK) rfl B.z_repr (by decide +kernel) (l_cons (e_var (i := 5)) (l_nil))))
        (s_one (s_if (PW.pt (w_or (t_cmp (op_neD (lt64 hu)) (s_ne B.hK) (e_call ok_law_made (hr.mono (by decide)) rfl g_law_made k_law_made b_law_made tk (l_cons (e_var (i := 5)) (l_cons (e_non) (l_nil))) (lC_len (lC_len (lN_len)))) (e_tupD (l_cons (e_str) (l_cons (e_var (i := 2)) (l_nil))))) (w_or1 (t_cmp (op_neD (lt64 hu)) (s_ne B.hK) (e_callB (call_reprD hgd hu) (s_repr B.hK) rfl B.z_repr (by decide +kernel) (l_cons (e_var (i := 5)) (l_nil))) (e_var (i := 6)))))) (s_one (s_ret (e_bl))) (s_nil))))))
        (s_cons (s_set (i := 4) sc_law_steps_refused.nd (e_lstD (l_cons (e_str) (l_cons (e_str) (l_cons (e_str) (l_cons (e_str) (l_cons (e_str) (l_cons (e_str) (l_nil)))))))))
        (s_cons (s_if (PW.pt (w_or (t_cmp (op_neD (lt64 hu)) (s_ne B.hK) (e_call ok_law_made (hr.mono (by decide)) rfl g_law_made k_law_made b_law_made tk (l_cons (e_op o_add (s_addD B.hK) (e_var (i := 4)) (e_lstD (l_cons (e_str) (l_nil)))) (l_cons (e_non) (l_nil))) (lC_len (lC_len (lN_len)))) (e_tupD (l_cons (e_str) (l_cons (e_int) (l_nil))))) (w_or1 (t_cmp (op_neD (lt64 hu)) (s_ne B.hK) (e_call ok_law_made (hr.mono (by decide)) rfl g_law_made k_law_made b_law_made tk (l_cons (e_op o_add (s_addD B.hK) (e_var (i := 4)) (e_lstD (l_cons (e_non) (l_nil)))) (l_cons (e_lstD (l_nil)) (l_nil))) (lC_len (lC_len (lN_len)))) (e_tupD (l_cons (e_str) (l_cons (e_int) (l_nil)))))))) (s_one (s_ret (e_bl))) (s_nil))
        (s_cons (s_if (PW.pt (w_or (t_cmp (op_neD (lt64 hu)) (s_ne B.hK) (e_call ok_law_made (hr.mono (by decide)) rfl g_law_made k_law_made b_law_made tk (l_cons (e_lstD (l_nil)) (l_cons (e_non) (l_nil))) (lC_len (lC_len (lN_len)))) (e_tupD (l_cons (e_str) (l_cons (e_int) (l_nil))))) (w_or1 (t_cmp op_notN s_notN (e_call ok_law_made (hr.mono (by decide)) rfl g_law_made k_law_made b_law_made tk (l_cons (e_var (i := 4)) (l_cons (e_lstD (l_nil)) (l_nil))) (lC_len (lC_len (lN_len)))) (e_non))))) (s_one (s_ret (e_bl))) (s_nil))
        (s_cons (s_forF hp rfl (wi_seq B.hK (e_lstD (l_cons (e_non) (l_cons (e_callTy (call_tupX) (s_tupD B.hK) rfl B.z_tuple (by decide +kernel) (l_cons (e_var (i := 1)) (l_nil))) (l_cons (e_str) (l_cons (e_int) (l_nil))))))) (g_name (i := 3) sc_law_steps_refused.nd) (s_one (s_if (PW.pt (w_or (t_cmp (op_neD (lt64 hu)) (s_ne B.hK) (e_call ok_law_made (hr.mono (by decide)) rfl g_law_made k_law_made b_law_made tk (l_cons (e_var (i := 3)) (l_cons (e_non) (l_nil))) (lC_len (lC_len (lN_len)))) (e_tupD (l_cons (e_str) (l_cons (e_int) (l_nil))))) (w_or1 (t_cmp (op_neD (lt64 hu)) (s_ne B.hK) (e_call ok_law_made (hr.mono (by decide)) rfl g_law_made k_law_made b_law_made tk (l_cons (e_callTy (k_lst) (s_lstD B.hK) rfl B.z_list (by decide +kernel) (l_cons (e_var (i := 1)) (l_nil))) (l_cons (e_var (i := 3)) (l_nil))) (lC_len (lC_len (lN_len)))) (e_tupD (l_cons (e_str) (l_cons (e_int) (l_nil)))))))) (s_one (s_ret (e_bl))) (s_nil))))
        (s_one (s_ret (e_cmp (op_eqD (lt64 hu)) (s_eq B.hK) (e_call ok_law_made (hr.mono (by decide)) rfl g_law_made k_law_made b_law_made tk (l_cons (e_op o_add (s_addD B.hK) (e_sliceD B.hK (e_var (i := 4)) (o_none) (o_some (e_int))) (e_lstD (l_cons (e_str) (l_nil)))) (l_cons (e_lstD (l_nil)) (l_nil))) (lC_len (lC_len (lN_len)))) (e_tupD (l_cons (e_str) (l_cons (e_int) (l_nil))))))))))))
theorem ok_law_pick (B : Fx P w K mg base g) {f : Addr} {fd : FuncData} (F : Fun K "_law_pick" "_law_pick" st_law_pick f fd) {f_law_take : Addr} {fd_law_take : FuncData} (ok_law_take : FnOk P w K mg base (L2.CX P w) 1 f_law_take fd_law_take ["feed", "bound"] (spM g 2 (d_law_take g.ns))) (b_law_take : Binds K fd_law_take ["feed", "bound"] []) (g_law_take : mg "_law_take" = some (.ref f_law_take)) (k_law_take : PySem.W.keepIn K (.ref f_law_take) = true) : FnOk P w K mg base (L2.CX P w) 2 f fd ["feed", "some"] (spM g 2 (d_law_pick g.ns)) :=
  fn_okM B.hx (k := 1) F sc_law_pick fun cdv A outer s H E hr hu hp tk =>
      s_one (s_ret (e_ix (o_ix B.hK) s_ixD (e_var (i := 1)) (e_call ok_law_take (hr.mono (by decide)) rfl g_law_take k_law_take b_law_take tk (l_cons (e_var (i := 0)) (l_cons (e_callB (k_len B.hK) s_lenD rfl B.z_len (by decide +kernel) (l_cons (e_var (i := 1)) (l_nil))) (l_nil))) (lC_len (lC_len (lN_len))))))
theorem ok_law_drawn_staff (B : Fx P w K mg base g) {f : Addr} {fd : FuncData} (F : Fun K "_law_drawn_staff" "_law_drawn_staff" st_law_drawn_staff f fd) {f_law_pick : Addr} {fd_law_pick : FuncData} (ok_law_pick : FnOk P w K mg base (L2.CX P w) 2 f_law_pick fd_law_pick ["feed", "some"] (spM g 2 (d_law_pick g.ns))) (b_law_pick : Binds K fd_law_pick ["feed", "some"] []) (g_law_pick : mg "_law_pick" = some (.ref f_law_pick)) (k_law_pick : PySem.W.keepIn K (.ref f_law_pick) = true) {f_law_take : Addr} {fd_law_take : FuncData} (ok_law_take : FnOk P w K mg base (L2.CX P w) 1 f_law_take fd_law_take ["feed", "bound"] (spM g 2 (d_law_take g.ns))) (b_law_take : Binds K fd_law_take ["feed", "bound"] []) (g_law_take : mg "_law_take" = some (.ref f_law_take)) (k_law_take : PySem.W.keepIn K (.ref f_law_take) = true) : FnOk P w K mg base (L2.CX P w) 3 f fd ["feed", "steps_most", "people_most"] (spM g 3 (d_law_drawn_staff g.ns)) :=
  fn_okM B.hx (k := 2) F sc_law_drawn_staff fun cdv A outer s H E hr hu hp tk =>
      s_cons (s_set (i := 3) sc_law_drawn_staff.nd (e_sliceD B.hK (e_lstD (l_cons (e_str) (l_cons (e_str) (l_cons (e_str) (l_cons (e_str) (l_cons (e_str) (l_cons (e_str) (l_nil)))))))) (o_none) (o_some (e_op o_add (s_addD B.hK) (e_int) (e_call ok_law_take (hr.mono (by decide)) rfl g_law_take k_law_take b_law_take tk (l_cons (e_var (i := 0)) (l_cons (e_var (i := 1)) (l_nil))) (lC_len (lC_len (lN_len))))))))
        (s_cons (s_set (i := 4) sc_law_drawn_staff.nd (e_if (t_cmp (op_eqD (lt64 hu)) (s_eq B.hK) (e_call ok_law_take (hr.mono (by decide)) rfl g_law_take k_law_take b_law_take tk (l_cons (e_var (i := 0)) (l_cons (e_int) (l_nil))) (lC_len (lC_len (lN_len)))) (e_int)) (e_rev B.hK (e_var (i := 3))) (e_var (i := 3))))
        (s_cons (s_par (i := 7) (j := 8) rfl sc_law_drawn_staff.nd (l_cons (e_lst (l_nil)) (l_cons (e_sliceD B.hK (e_lstD (l_cons (e_str) (l_cons (e_str) (l_cons (e_str) (l_cons (e_str) (l_cons (e_str) (l_cons (e_str) (l_cons (e_str) (l_cons (e_str) (l_nil)))))))))) (o_none) (o_some (e_call ok_law_take (hr.mono (by decide)) rfl g_law_take k_law_take b_law_take tk (l_cons (e_var (i := 0)) (l_cons (e_op o_add (s_addD B.hK) (e_var (i := 2)) (e_int)) (l_nil))) (lC_len (lC_len (lN_len)))))) (l_nil))))
        (s_cons (s_set (i := 5) sc_law_drawn_staff.nd (e_call ok_law_pick (hr.mono (by decide)) rfl g_law_pick k_law_pick b_law_pick tk (l_cons (e_var (i := 0)) (l_cons (e_lstD (l_cons (e_lstD (l_cons (e_str) (l_nil))) (l_cons (e_lstD (l_cons (e_str) (l_cons (e_str) (l_nil)))) (l_cons (e_lstD (l_cons (e_str) (l_cons (e_str) (l_nil)))) (l_cons (e_lstD (l_cons (e_str) (l_cons (e_str) (l_cons (e_str) (l_nil))))) (l_nil)))))) (l_nil))) (lC_len (lC_len (lN_len)))))
        (s_cons (s_forF hp rfl (wi_seq B.hK (e_var (i := 8))) (g_name (i := 6) sc_law_drawn_staff.nd) (s_cons (s_setLcF (i := 9) (own := [("step", 10)]) rfl sc_law_drawn_staff.nd rfl rfl (sw_true rfl rfl rfl (by decide +kernel)) (wi_seq B.hK (e_var (i := 4))) (blkOk_by (N := N_law_drawn_staff) (sc := defScope st_law_drawn_staff) (by decide +kernel)) (fun _ _ _ _ _ => g_name (i := 10) sc_law_drawn_staff.nd) (fun _ _ _ _ _ => b_one (t_cmp op_gt s_gt (e_call ok_law_take (hr.mono (by decide)) rfl g_law_take k_law_take b_law_take (takes0) (l_cons (e_var (i := 0)) (l_cons (e_int) (l_nil))) (lC_len (lC_len (lN_len)))) (e_int))) (fun _ _ _ _ _ => e_var (i := 10)) (by decide))
        (s_one (s_expr (e_append (e_var (i := 7)) (l_cons (e_tupD (l_cons (e_var (i := 6)) (l_cons (e_call ok_law_pick (hr.mono (by decide)) rfl g_law_pick k_law_pick b_law_pick tk (l_cons (e_var (i := 0)) (l_cons (e_var (i := 5)) (l_nil))) (lC_len (lC_len (lN_len)))) (l_cons (e_callTy (call_tupX) (s_tupD B.hK) rfl B.z_tuple (by decide +kernel) (l_cons (e_if (t_cmp op_gt s_gt (e_call ok_law_take (hr.mono (by decide)) rfl g_law_take k_law_take b_law_take tk (l_cons (e_var (i := 0)) (l_cons (e_int) (l_nil))) (lC_len (lC_len (lN_len)))) (e_int)) (e_var (i := 9)) (e_rev B.hK (e_var (i := 9)))) (l_nil))) (l_nil))))) (l_nil)))))))
        (s_fix (i := 7) (s_one (s_ret (e_lstD (l_cons (e_var (i := 4)) (l_cons (e_var (i := 7)) (l_nil)))))))))))
theorem ok_law_feed (B : Fx P w K mg base g) {f : Addr} {fd : FuncData} (F : Fun K "_law_feed" "_law_feed" st_law_feed f fd) : FnOk P w K mg base (L2.CX P w) 1 f fd ["script", "k"] (spM g 2 (d_law_feed g.ns)) :=
  fn_ok2 (k := 0) F sc_law_feed fun cdv A outer s H E hr hu hp tk =>
      s_cons (s_set (i := 2) sc_law_feed.nd (e_if (t_cmp op_lt s_lt (e_var (i := 1)) (e_callB (k_len B.hK) s_lenD rfl B.z_len (by decide +kernel) (l_cons (e_var (i := 0)) (l_nil)))) (e_ix (o_ix B.hK) s_ixD (e_var (i := 0)) (e_var (i := 1))) (e_op o_add (s_addD B.hK) (e_op o_mulE (s_mulE B.hK) (e_int) (e_var (i := 1))) (e_int))))
        (s_cons (s_set (i := 3) sc_law_feed.nd (e_callB ((call_max2 rfl)) s_max2 rfl B.z_max (by decide +kernel) (l_cons (e_int) (l_cons (e_op op_sub s_sub (e_callB (call_abs) s_abs rfl B.z_abs (by decide +kernel) (l_cons (e_var (i := 2)) (l_nil))) (e_op op_pow s_pow (e_int) (e_int))) (l_nil)))))
        (s_cons (s_set (i := 4) sc_law_feed.nd (e_op op_mod s_mod (e_callTy (call_int1) s_int rfl B.z_int (by decide +kernel) (l_cons (e_op o_add (s_addD B.hK) (e_op o_add (s_addD B.hK) (e_op o_mulE (s_mulE B.hK) (e_var (i := 2)) (e_int)) (e_op o_mulE (s_mulE B.hK) (e_int) (e_var (i := 1)))) (e_int)) (l_nil))) (e_int)))
        (s_one (s_ret (e_lst (l_cons (e_var (i := 3)) (l_cons (e_var (i := 4)) (l_nil))))))))
theorem ok_p_Staff_people (B : Fx P w K mg base g) {f : Addr} {fd : FuncData} (F : Fun K "people" "Staff.people" st_p_Staff_people f fd) : FnOk P w K mg base (L2.CX P w) 1 f fd ["self"] (spM g 1 (d_p_Staff_people g.ns)) :=
  fn_okP B.hx (k := 0) F sc_p_Staff_people fun cdv A outer s H E hr hu hp tk =>
      s_one (s_ret (e_callTy (k_lst) (s_lstD B.hK) rfl B.z_list (by decide +kernel) (l_cons (e_fldD B.T_Staff B.n_Staff__people (e_var (i := 0))) (l_nil))))
theorem body_law (B : Fx P w K mg base g) {f_p_Staff_people : Addr} {fd_p_Staff_people : FuncData} (ok_p_Staff_people : FnOk P w K mg base (L2.CX P w) 1 f_p_Staff_people fd_p_Staff_people ["self"] (spM g 1 (d_p_Staff_people g.ns))) (b_p_Staff_people : Binds K fd_p_Staff_people ["self"] []) (mt_p_Staff_people : Meth K (g.cl 7) "people" f_p_Staff_people) {f_law_told : Addr} {fd_law_told : FuncData} (ok_law_told : FnOk P w K mg base (L2.CX P w) 1 f_law_told fd_law_told ["steps", "people"] (spM g 2 (d_law_told g.ns))) (b_law_told : Binds K fd_law_told ["steps", "people"] []) (g_law_told : mg "_law_told" = some (.ref f_law_told)) (k_law_told : PySem.W.keepIn K (.ref f_law_told) = true) {f_law_asked : Addr} {fd_law_asked : FuncData} (ok_law_asked : FnG P w K mg base 7 f_law_asked fd_law_asked ["staff", "nth", "value", "other"] (spM g 4 (d_law_asked g.ns))) (b_law_asked : Binds K fd_law_asked ["staff", "nth", "value", "other"] []) (g_law_asked : mg "_law_asked" = some (.ref f_law_asked)) (k_law_asked : PySem.W.keepIn K (.ref f_law_asked) = true) {f_p_Staff___contains__ : Addr} {fd_p_Staff___contains__ : FuncData} (ok_p_Staff___contains__ : FnOk P w K mg base (L2.CX P w) 3 f_p_Staff___contains__ fd_p_Staff___contains__ ["self", "name"] (spM g 2 (d_p_Staff___contains__ g.ns))) (b_p_Staff___contains__ : Binds K fd_p_Staff___contains__ ["self", "name"] []) (mt_p_Staff___contains__ : Meth K (g.cl 7) "__contains__" f_p_Staff___contains__) {f_p_Staff___init__ : Addr} {fd_p_Staff___init__ : FuncData} (ok_p_Staff___init__ : FnOk P w K mg base (L2.CX P w) 4 f_p_Staff___init__ fd_p_Staff___init__ ["self", "steps", "people"] (spM g 3 (d_p_Staff___init__ g.ns))) (b_p_Staff___init__ : Binds K fd_p_Staff___init__ ["self", "steps", "people"] []) (mk_p_Staff___init__ : Mk K (g.cl 7) f_p_Staff___init__) {f_law_made : Addr} {fd_law_made : FuncData} (ok_law_made : FnOk P w K mg base (L2.CX P w) 6 f_law_made fd_law_made ["steps", "people"] (spM g 2 (d_law_made g.ns))) (b_law_made : Binds K fd_law_made ["steps", "people"] []) (g_law_made : mg "_law_made" = some (.ref f_law_made)) (k_law_made : PySem.W.keepIn K (.ref f_law_made) = true) {f_law_odd_people : Addr} {fd_law_odd_people : FuncData} (ok_law_odd_people : FnOk P w K mg base (L2.CX P w) 1 f_law_odd_people fd_law_odd_people ["steps", "name"] (spM g 2 (d_law_odd_people g.ns))) (b_law_odd_people : Binds K fd_law_odd_people ["steps", "name"] []) (g_law_odd_people : mg "_law_odd_people" = some (.ref f_law_odd_people)) (k_law_odd_people : PySem.W.keepIn K (.ref f_law_odd_people) = true) {f_law_doubles_right : Addr} {fd_law_doubles_right : FuncData} (ok_law_doubles_right : FnOk P w K mg base (L2.CX P w) 7 f_law_doubles_right fd_law_doubles_right ["feed", "steps"] (spM g 2 (d_law_doubles_right g.ns))) (b_law_doubles_right : Binds K fd_law_doubles_right ["feed", "steps"] []) (g_law_doubles_right : mg "_law_doubles_right" = some (.ref f_law_doubles_right)) (k_law_doubles_right : PySem.W.keepIn K (.ref f_law_doubles_right) = true) {f_law_steps_refused : Addr} {fd_law_steps_refused : FuncData} (ok_law_steps_refused : FnG P w K mg base 7 f_law_steps_refused fd_law_steps_refused ["feed", "steps"] (spM g 2 (d_law_steps_refused g.ns))) (b_law_steps_refused : Binds K fd_law_steps_refused ["feed", "steps"] []) (g_law_steps_refused : mg "_law_steps_refused" = some (.ref f_law_steps_refused)) (k_law_steps_refused : PySem.W.keepIn K (.ref f_law_steps_refused) = true) {f_law_take : Addr} {fd_law_take : FuncData} (ok_law_take : FnOk P w K mg base (L2.CX P w) 1 f_law_take fd_law_take ["feed", "bound"] (spM g 2 (d_law_take g.ns))) (b_law_take : Binds K fd_law_take ["feed", "bound"] []) (g_law_take : mg "_law_take" = some (.ref f_law_take)) (k_law_take : PySem.W.keepIn K (.ref f_law_take) = true) {f_law_drawn_staff : Addr} {fd_law_drawn_staff : FuncData} (ok_law_drawn_staff : FnOk P w K mg base (L2.CX P w) 3 f_law_drawn_staff fd_law_drawn_staff ["feed", "steps_most", "people_most"] (spM g 3 (d_law_drawn_staff g.ns))) (b_law_drawn_staff : Binds K fd_law_drawn_staff ["feed", "steps_most", "people_most"] []) (g_law_drawn_staff : mg "_law_drawn_staff" = some (.ref f_law_drawn_staff)) (k_law_drawn_staff : PySem.W.keepIn K (.ref f_law_drawn_staff) = true) {f_law_feed : Addr} {fd_law_feed : FuncData} (ok_law_feed : FnOk P w K mg base (L2.CX P w) 1 f_law_feed fd_law_feed ["script", "k"] (spM g 2 (d_law_feed g.ns))) (b_law_feed : Binds K fd_law_feed ["script", "k"] []) (g_law_feed : mg "_law_feed" = some (.ref f_law_feed)) (k_law_feed : PySem.W.keepIn K (.ref f_law_feed) = true) {f : Addr} : LawBody P w K mg base g "law" st_p_law N_p_law f 7 (m_p_law g.ns) :=
  fun cdv A outer s H E hgd hr hu hp tk =>
      s_cons (s_forF hp rfl (wi_range1 rfl B.z_range (l_cons (e_callB ((call_max2 rfl)) s_max2 rfl B.z_max (by decide +kernel) (l_cons (e_int) (l_cons (e_callB ((call_min2 rfl)) s_min2 rfl B.z_min (by decide +kernel) (l_cons (e_int) (l_cons (e_callB (k_len B.hK) s_lenD rfl B.z_len (by decide +kernel) (l_cons (e_var (i := 0)) (l_nil))) (l_nil)))) (l_nil)))) (l_nil))) (g_name (i := 1) sc_p_law.nd) (s_cons (s_set (i := 2) sc_p_law.nd (e_call ok_law_feed (hr.mono (by decide)) rfl g_law_feed k_law_feed b_law_feed tk (l_cons (e_var (i := 0)) (l_cons (e_var (i := 1)) (l_nil))) (lC_len (lC_len (lN_len)))))
        (s_cons (s_asg (e_call ok_law_drawn_staff (hr.mono (by decide)) rfl g_law_drawn_staff k_law_drawn_staff b_law_drawn_staff tk (l_cons (e_var (i := 2)) (l_cons (e_int) (l_cons (e_int) (l_nil)))) (lC_len (lC_len (lC_len (lN_len))))) (g_tupD B.hK rfl (gs_cons (g_name (i := 8) sc_p_law.nd) (gs_cons (g_name (i := 9) sc_p_law.nd) (gs_nil)))))
        (s_cons (s_set (i := 3) sc_p_law.nd (e_call ok_law_take (hr.mono (by decide)) rfl g_law_take k_law_take b_law_take tk (l_cons (e_var (i := 2)) (l_cons (e_op o_add (s_addD B.hK) (e_callB (k_len B.hK) s_lenD rfl B.z_len (by decide +kernel) (l_cons (e_var (i := 9)) (l_nil))) (e_int)) (l_nil))) (lC_len (lC_len (lN_len)))))
        (s_cons (s_if (PW.pt (w_or (t_not (t_val (e_callG ok_law_steps_refused hgd (hr.mono (by decide)) rfl g_law_steps_refused k_law_steps_refused b_law_steps_refused tk (l_cons (e_var (i := 2)) (l_cons (e_var (i := 8)) (l_nil))) (lC_len (lC_len (lN_len)))))) (w_or1 (t_not (t_val (e_call ok_law_doubles_right (hr.mono (by decide)) rfl g_law_doubles_right k_law_doubles_right b_law_doubles_right tk (l_cons (e_var (i := 2)) (l_cons (e_var (i := 8)) (l_nil))) (lC_len (lC_len (lN_len))))))))) (s_one (s_ret (e_bl))) (s_nil))
        (s_cons (s_setLcF (i := 4) (own := [("person", 14)]) rfl sc_p_law.nd rfl rfl (sw_true rfl rfl rfl (by decide +kernel)) (wi_seq B.hK (e_sliceD B.hK (e_sliceD B.hK (e_var (i := 9)) (o_none) (o_some (e_var (i := 3)))) (o_some (e_un un_neg s_neg (e_int))) (o_none))) (blkOk_by (N := N_p_law) (sc := defScope st_p_law) (by decide +kernel)) (fun _ _ _ _ _ => g_name (i := 14) sc_p_law.nd) (fun _ _ _ _ _ => b_yes) (fun _ _ _ _ _ => e_tupD (l_cons (e_ix (o_ix B.hK) s_ixD (e_var (i := 14)) (e_int)) (l_cons (e_str) (l_cons (e_tupD (l_nil)) (l_nil))))) (by decide))
        (s_cons (s_forF hp rfl (wi_seq B.hK (e_op o_add (s_addD B.hK) (e_op o_add (s_addD B.hK) (e_call ok_law_odd_people (hr.mono (by decide)) rfl g_law_odd_people k_law_odd_people b_law_odd_people tk (l_cons (e_var (i := 8)) (l_cons (e_str) (l_nil))) (lC_len (lC_len (lN_len)))) (e_sliceD B.hK (e_sliceD B.hK (e_var (i := 9)) (o_none) (o_some (e_var (i := 3)))) (o_none) (o_some (e_int)))) (e_var (i := 4)))) (g_name (i := 5) sc_p_law.nd) (s_cons (s_set (i := 10) sc_p_law.nd (e_op o_add (s_addD B.hK) (e_op o_add (s_addD B.hK) (e_op o_add (s_addD B.hK) (e_sliceD B.hK (e_var (i := 9)) (o_none) (o_some (e_var (i := 3)))) (e_lstD (l_cons (e_var (i := 5)) (l_nil)))) (e_sliceD B.hK (e_var (i := 9)) (o_some (e_var (i := 3))) (o_none))) (e_lstD (l_cons (e_non) (l_nil)))))
        (s_cons (s_set (i := 11) sc_p_law.nd (e_callB (call_reprD hgd hu) (s_repr B.hK) rfl B.z_repr (by decide +kernel) (l_cons (e_var (i := 10)) (l_nil))))
        (s_one (s_if (PW.pt (w_or (t_cmp (op_neD (lt64 hu)) (s_ne B.hK) (e_call ok_law_made (hr.mono (by decide)) rfl g_law_made k_law_made b_law_made tk (l_cons (e_callTy (k_lst) (s_lstD B.hK) rfl B.z_list (by decide +kernel) (l_cons (e_var (i := 8)) (l_nil))) (l_cons (e_var (i := 10)) (l_nil))) (lC_len (lC_len (lN_len)))) (e_tupD (l_cons (e_str) (l_cons (e_var (i := 3)) (l_nil))))) (w_or1 (t_cmp (op_neD (lt64 hu)) (s_ne B.hK) (e_callB (call_reprD hgd hu) (s_repr B.hK) rfl B.z_repr (by decide +kernel) (l_cons (e_var (i := 10)) (l_nil))) (e_var (i := 11)))))) (s_one (s_ret (e_bl))) (s_nil))))))
        (s_cons (s_setLcF (i := 6) (own := [("name", 15)]) rfl sc_p_law.nd rfl rfl (sw_true rfl rfl rfl (by decide +kernel)) (wi_seq B.hK (e_tupD (l_cons (e_str) (l_cons (e_str) (l_cons (e_str) (l_cons (e_str) (l_cons (e_str) (l_cons (e_str) (l_cons (e_str) (l_cons (e_str) (l_nil))))))))))) (blkOk_by (N := N_p_law) (sc := defScope st_p_law) (by decide +kernel)) (fun _ _ _ _ _ => g_name (i := 15) sc_p_law.nd) (fun _ _ _ _ _ => b_yes) (fun _ _ _ _ _ => e_tupD (l_cons (e_var (i := 15)) (l_cons (e_str) (l_cons (e_tupD (l_nil)) (l_nil))))) (by decide))
        (s_cons (s_if (PW.pt (w_or (t_cmp (op_neD (lt64 hu)) (s_ne B.hK) (e_call ok_law_made (hr.mono (by decide)) rfl g_law_made k_law_made b_law_made tk (l_cons (e_callTy (k_lst) (s_lstD B.hK) rfl B.z_list (by decide +kernel) (l_cons (e_var (i := 8)) (l_nil))) (l_cons (e_op o_add (s_addD B.hK) (e_var (i := 6)) (e_lstD (l_cons (e_non) (l_nil)))) (l_nil))) (lC_len (lC_len (lN_len)))) (e_tupD (l_cons (e_str) (l_cons (e_int) (l_nil))))) (w_or1 (t_cmp op_notN s_notN (e_call ok_law_made (hr.mono (by decide)) rfl g_law_made k_law_made b_law_made tk (l_cons (e_callTy (k_lst) (s_lstD B.hK) rfl B.z_list (by decide +kernel) (l_cons (e_var (i := 8)) (l_nil))) (l_cons (e_var (i := 6)) (l_nil))) (lC_len (lC_len (lN_len)))) (e_non))))) (s_one (s_ret (e_bl))) (s_nil))
        (s_cons (s_set (i := 7) sc_p_law.nd (e_makeD B.hx mk_p_Staff___init__ ok_p_Staff___init__ (hr.mono (by decide)) rfl B.m_Staff b_p_Staff___init__ tk (l_cons (e_callTy (k_lst) (s_lstD B.hK) rfl B.z_list (by decide +kernel) (l_cons (e_var (i := 8)) (l_nil))) (l_cons (e_callTy (k_lst) (s_lstD B.hK) rfl B.z_list (by decide +kernel) (l_cons (e_var (i := 9)) (l_nil))) (l_nil))) (len1 (lC_len (lC_len (lN_len))))))
        (s_cons (s_forF hp rfl (wi_seq B.hK (e_lstD (l_cons (e_non) (l_cons (e_str) (l_cons (e_str) (l_cons (e_int) (l_cons (e_lstD (l_cons (e_str) (l_nil))) (l_cons (e_tupD (l_cons (e_str) (l_nil))) (l_cons (e_str) (l_cons (e_bl) (l_cons (e_str) (l_cons (e_str) (l_cons (e_str) (l_nil)))))))))))))) (g_name (i := 5) sc_p_law.nd) (s_cons (s_setLcF (i := 12) (own := [("nth", 16)]) rfl sc_p_law.nd rfl rfl (sw_true rfl rfl rfl (by decide +kernel)) (wi_range1 rfl B.z_range (l_cons (e_int) (l_nil))) (blkOk_by (N := N_p_law) (sc := defScope st_p_law) (by decide +kernel)) (fun _ _ _ _ _ => g_name (i := 16) sc_p_law.nd) (fun _ _ _ _ _ => b_yes) (fun _ _ _ _ _ => e_callG ok_law_asked hgd (hr.mono (by decide)) rfl g_law_asked k_law_asked b_law_asked (takes0) (l_cons (e_var (i := 7)) (l_cons (e_var (i := 16)) (l_cons (e_var (i := 5)) (l_cons (e_var (i := 5)) (l_nil))))) (lC_len (lC_len (lC_len (lC_len (lN_len)))))) (by decide))
        (s_cons (s_set (i := 13) sc_p_law.nd (e_lst (l_cons (e_tupD (l_cons (e_str) (l_cons (e_callB (call_reprD hgd hu) (s_repr B.hK) rfl B.z_repr (by decide +kernel) (l_cons (e_var (i := 5)) (l_nil))) (l_nil)))) (l_cons (e_tupD (l_cons (e_str) (l_cons (e_callB (call_reprD hgd hu) (s_repr B.hK) rfl B.z_repr (by decide +kernel) (l_cons (e_var (i := 5)) (l_nil))) (l_nil)))) (l_cons (e_tupD (l_cons (e_str) (l_cons (e_callB (call_reprD hgd hu) (s_repr B.hK) rfl B.z_repr (by decide +kernel) (l_cons (e_var (i := 5)) (l_nil))) (l_nil)))) (l_nil))))))
        (s_cons (s_set (i := 13) sc_p_law.nd (e_op o_add s_addM (e_var (i := 13)) (e_lstD (l_cons (e_tupD (l_cons (e_str) (l_cons (e_str) (l_nil)))) (l_cons (e_tupD (l_cons (e_str) (l_cons (e_callB (call_reprD hgd hu) (s_repr B.hK) rfl B.z_repr (by decide +kernel) (l_cons (e_var (i := 5)) (l_nil))) (l_nil)))) (l_nil))))))
        (s_cons (s_if (t_val (e_isi (T := "list") B.hK rfl B.z_isinstance rfl B.z_list (by decide +kernel) (e_var (i := 5)))) (s_one (s_put (e_var (i := 13)) (e_int) (e_if (t_cmp (o_notinOwn mt_p_Staff___contains__ ok_p_Staff___contains__ (hr.mono (by decide)) b_p_Staff___contains__ ) s_inOwn (e_ix (o_ix B.hK) s_ixD (e_var (i := 5)) (e_int)) (e_var (i := 7))) (e_tupD (l_cons (e_str) (l_cons (e_callB (call_reprD hgd hu) (s_repr B.hK) rfl B.z_repr (by decide +kernel) (l_cons (e_ix (o_ix B.hK) s_ixD (e_var (i := 5)) (e_int)) (l_nil))) (l_nil)))) (e_non)))) (s_nil))
        (s_fix (i := 13) (s_cons (s_if (PW.pt (w_or (t_cmp (op_neD (lt64 hu)) (s_ne B.hK) (e_var (i := 12)) (e_var (i := 13))) (w_or1 (t_cmp (op_neD (lt64 hu)) (s_ne B.hK) (e_callG ok_law_asked hgd (hr.mono (by decide)) rfl g_law_asked k_law_asked b_law_asked tk (l_cons (e_var (i := 7)) (l_cons (e_int) (l_cons (e_ix (o_ix B.hK) s_ixD (e_var (i := 8)) (e_int)) (l_cons (e_var (i := 5)) (l_nil))))) (lC_len (lC_len (lC_len (lC_len (lN_len)))))) (e_tupD (l_cons (e_str) (l_cons (e_callB (call_reprD hgd hu) (s_repr B.hK) rfl B.z_repr (by decide +kernel) (l_cons (e_var (i := 5)) (l_nil))) (l_nil)))))))) (s_one (s_ret (e_bl))) (s_nil))
        (s_one (s_if (t_cmp (op_neD (lt64 hu)) (s_ne B.hK) (e_callG ok_law_asked hgd (hr.mono (by decide)) rfl g_law_asked k_law_asked b_law_asked tk (l_cons (e_var (i := 7)) (l_cons (e_int) (l_cons (e_op o_add (s_addD B.hK) (e_lcF (own := [("person", 14)]) rfl sc_p_law.nd (wi_seq B.hK (e_var (i := 9))) (blkOk_by (N := N_p_law) (sc := defScope st_p_law) (by decide +kernel)) (fun _ _ _ _ _ => g_name (i := 14) sc_p_law.nd) (fun _ _ _ _ _ => b_yes) (fun _ _ _ _ _ => e_ix (o_ix B.hK) s_ixD (e_var (i := 14)) (e_int)) (by decide)) (e_lstD (l_cons (e_var (i := 5)) (l_cons (e_non) (l_nil))))) (l_cons (e_int) (l_nil))))) (lC_len (lC_len (lC_len (lC_len (lN_len)))))) (e_tupD (l_cons (e_str) (l_cons (e_callB (call_reprD hgd hu) (s_repr B.hK) rfl B.z_repr (by decide +kernel) (l_cons (e_var (i := 5)) (l_nil))) (l_nil))))) (s_one (s_ret (e_bl))) (s_nil))))))))))
        (s_one (s_if (t_cmp (op_neD (lt64 hu)) (s_ne B.hK) (e_methD0 B.T_Staff mt_p_Staff_people ok_p_Staff_people (hr.mono (by decide)) b_p_Staff_people tk (e_var (i := 7)) rfl) (e_call ok_law_told (hr.mono (by decide)) rfl g_law_told k_law_told b_law_told tk (l_cons (e_var (i := 8)) (l_cons (e_var (i := 9)) (l_nil))) (lC_len (lC_len (lN_len))))) (s_one (s_ret (e_bl))) (s_nil))))))))))))))
        (s_one (s_ret (e_bl)))
end
theorem all_mk {l : PySem.W.OpenLaw} {w : World} {K : PySem.W.Frag} {h : Heap} {mg : Str → Option Value} {fa : Addr} (X : K.In h) (G : h.Ns mainGlobals mg) (hfa : mg "law" = some (.ref fa))
    {A0 : Addr} (ca0 : PySem.W.nsIn K mainGlobals "HandError" = some (some (.ref A0)))
    {A1 : Addr} (ca1 : PySem.W.nsIn K mainGlobals "NoList" = some (some (.ref A1)))
    {A2 : Addr} (ca2 : PySem.W.nsIn K mainGlobals "BadCount" = some (some (.ref A2)))
    {A3 : Addr} (ca3 : PySem.W.nsIn K mainGlobals "BadStep" = some (some (.ref A3)))
    {A4 : Addr} (ca4 : PySem.W.nsIn K mainGlobals "BadPerson" = some (some (.ref A4)))
    {A5 : Addr} (ca5 : PySem.W.nsIn K mainGlobals "NoStep" = some (some (.ref A5)))
    {A6 : Addr} (ca6 : PySem.W.nsIn K mainGlobals "NoPerson" = some (some (.ref A6)))
    {A7 : Addr} (ca7 : PySem.W.nsIn K mainGlobals "Staff" = some (some (.ref A7)))
    (kx1 : PySem.W.keepIn K (.ref A1) = true)
    (bp1 : PySem.W.subIn K (.ref A1) (.type "BaseException") = some true)
    (tp1 : PySem.W.typeIn K (.ref A1) = some (.type "type"))
    (xp1 : PySem.W.excIn K A1 veB "ValueError.__new__" = true)
    (kx2 : PySem.W.keepIn K (.ref A2) = true)
    (bp2 : PySem.W.subIn K (.ref A2) (.type "BaseException") = some true)
    (tp2 : PySem.W.typeIn K (.ref A2) = some (.type "type"))
    (xp2 : PySem.W.excIn K A2 veB "ValueError.__new__" = true)
    (kx3 : PySem.W.keepIn K (.ref A3) = true)
    (bp3 : PySem.W.subIn K (.ref A3) (.type "BaseException") = some true)
    (tp3 : PySem.W.typeIn K (.ref A3) = some (.type "type"))
    {q1_3 q2_3 : Str} {q3_3 : Addr} {q4_3 q5_3 : List Value} {q6_3 : List Str} {q7_3 : List Value} {q8_3 : Bool} {q9_3 : Option Bool} {q10_3 : Option Addr} {q11_3 q12_3 q13_3 q14_3 q15_3 : Option Value} (lk3 : K.lookup A3 = some (excClassObj q1_3 q2_3 A3 q3_3 q4_3 q5_3 true q6_3 q7_3 q8_3 q9_3 q10_3 q11_3 q12_3 q13_3 q14_3 q15_3 "ValueError.__new__")) (rf3 : PySem.HandSPX.refsVE q5_3 = true)
    (sa3 : PySem.W.findIn K (.ref A3) "__setattr__" = some (some (.builtin "object.__setattr__"))) {I3 : Addr} (in3 : PySem.W.findIn K (.ref A3) "__init__" = some (some (.ref I3))) (ti3 : PySem.W.typeIn K (.ref I3) = some (.type "function")) (nf3 : PySem.W.findIn K (.ref A3) "number" = some none)
    {iod3 ian3 : Option Addr} {isl3 : Array (Option Value)} {ioc3 ikV3 idc3 ipm3 icd3 ict3 : Value} (il3 : K.lookup I3 = some ⟨ioc3, iod3, .func (PySem.W.fnOf "__init__" "BadStep.__init__" (defArgs (clsS (topS 5))) (defBody (clsS (topS 5))) (defScope (clsS (topS 5))) .none ikV3 idc3 ipm3 ian3 icd3 ict3), isl3⟩) (ic3 : PySem.W.codeIn K icd3 "BadStep.__init__" = true) (ik3 : PySem.W.keepIn K (.ref I3) = true)
    (kx4 : PySem.W.keepIn K (.ref A4) = true)
    (bp4 : PySem.W.subIn K (.ref A4) (.type "BaseException") = some true)
    (tp4 : PySem.W.typeIn K (.ref A4) = some (.type "type"))
    {q1_4 q2_4 : Str} {q3_4 : Addr} {q4_4 q5_4 : List Value} {q6_4 : List Str} {q7_4 : List Value} {q8_4 : Bool} {q9_4 : Option Bool} {q10_4 : Option Addr} {q11_4 q12_4 q13_4 q14_4 q15_4 : Option Value} (lk4 : K.lookup A4 = some (excClassObj q1_4 q2_4 A4 q3_4 q4_4 q5_4 true q6_4 q7_4 q8_4 q9_4 q10_4 q11_4 q12_4 q13_4 q14_4 q15_4 "ValueError.__new__")) (rf4 : PySem.HandSPX.refsVE q5_4 = true)
    (sa4 : PySem.W.findIn K (.ref A4) "__setattr__" = some (some (.builtin "object.__setattr__"))) {I4 : Addr} (in4 : PySem.W.findIn K (.ref A4) "__init__" = some (some (.ref I4))) (ti4 : PySem.W.typeIn K (.ref I4) = some (.type "function")) (nf4 : PySem.W.findIn K (.ref A4) "number" = some none)
    {iod4 ian4 : Option Addr} {isl4 : Array (Option Value)} {ioc4 ikV4 idc4 ipm4 icd4 ict4 : Value} (il4 : K.lookup I4 = some ⟨ioc4, iod4, .func (PySem.W.fnOf "__init__" "BadPerson.__init__" (defArgs (clsS (topS 6))) (defBody (clsS (topS 6))) (defScope (clsS (topS 6))) .none ikV4 idc4 ipm4 ian4 icd4 ict4), isl4⟩) (ic4 : PySem.W.codeIn K icd4 "BadPerson.__init__" = true) (ik4 : PySem.W.keepIn K (.ref I4) = true)
    (kx5 : PySem.W.keepIn K (.ref A5) = true)
    (bp5 : PySem.W.subIn K (.ref A5) (.type "BaseException") = some true)
    (tp5 : PySem.W.typeIn K (.ref A5) = some (.type "type"))
    {q1_5 q2_5 : Str} {q3_5 : Addr} {q4_5 q5_5 : List Value} {q6_5 : List Str} {q7_5 : List Value} {q8_5 : Bool} {q9_5 : Option Bool} {q10_5 : Option Addr} {q11_5 q12_5 q13_5 q14_5 q15_5 : Option Value} (lk5 : K.lookup A5 = some (excClassObj q1_5 q2_5 A5 q3_5 q4_5 q5_5 true q6_5 q7_5 q8_5 q9_5 q10_5 q11_5 q12_5 q13_5 q14_5 q15_5 "ValueError.__new__")) (rf5 : PySem.HandSPX.refsVE q5_5 = true)
    (sa5 : PySem.W.findIn K (.ref A5) "__setattr__" = some (some (.builtin "object.__setattr__"))) {I5 : Addr} (in5 : PySem.W.findIn K (.ref A5) "__init__" = some (some (.ref I5))) (ti5 : PySem.W.typeIn K (.ref I5) = some (.type "function")) (nf5 : PySem.W.findIn K (.ref A5) "name" = some none)
    {iod5 ian5 : Option Addr} {isl5 : Array (Option Value)} {ioc5 ikV5 idc5 ipm5 icd5 ict5 : Value} (il5 : K.lookup I5 = some ⟨ioc5, iod5, .func (PySem.W.fnOf "__init__" "NoStep.__init__" (defArgs (clsS (topS 7))) (defBody (clsS (topS 7))) (defScope (clsS (topS 7))) .none ikV5 idc5 ipm5 ian5 icd5 ict5), isl5⟩) (ic5 : PySem.W.codeIn K icd5 "NoStep.__init__" = true) (ik5 : PySem.W.keepIn K (.ref I5) = true)
    (kx6 : PySem.W.keepIn K (.ref A6) = true)
    (bp6 : PySem.W.subIn K (.ref A6) (.type "BaseException") = some true)
    (tp6 : PySem.W.typeIn K (.ref A6) = some (.type "type"))
    {q1_6 q2_6 : Str} {q3_6 : Addr} {q4_6 q5_6 : List Value} {q6_6 : List Str} {q7_6 : List Value} {q8_6 : Bool} {q9_6 : Option Bool} {q10_6 : Option Addr} {q11_6 q12_6 q13_6 q14_6 q15_6 : Option Value} (lk6 : K.lookup A6 = some (excClassObj q1_6 q2_6 A6 q3_6 q4_6 q5_6 true q6_6 q7_6 q8_6 q9_6 q10_6 q11_6 q12_6 q13_6 q14_6 q15_6 "ValueError.__new__")) (rf6 : PySem.HandSPX.refsVE q5_6 = true)
    (sa6 : PySem.W.findIn K (.ref A6) "__setattr__" = some (some (.builtin "object.__setattr__"))) {I6 : Addr} (in6 : PySem.W.findIn K (.ref A6) "__init__" = some (some (.ref I6))) (ti6 : PySem.W.typeIn K (.ref I6) = some (.type "function")) (nf6 : PySem.W.findIn K (.ref A6) "name" = some none)
    {iod6 ian6 : Option Addr} {isl6 : Array (Option Value)} {ioc6 ikV6 idc6 ipm6 icd6 ict6 : Value} (il6 : K.lookup I6 = some ⟨ioc6, iod6, .func (PySem.W.fnOf "__init__" "NoPerson.__init__" (defArgs (clsS (topS 8))) (defBody (clsS (topS 8))) (defScope (clsS (topS 8))) .none ikV6 idc6 ipm6 ian6 icd6 ict6), isl6⟩) (ic6 : PySem.W.codeIn K icd6 "NoPerson.__init__" = true) (ik6 : PySem.W.keepIn K (.ref I6) = true)
    (pg7 : PySem.W.plainGet K A7 Str.empty = true)
    (hd7 : PySem.W.hasDictIn K A7 = true)
    (po7 : PySem.W.plainOver K A7 = true)
    (sa7 : PySem.W.findIn K (.ref A7) "__setattr__" = some (some (.builtin "object.__setattr__")))
    (na7__steps : PySem.W.findIn K (.ref A7) "_steps" = some none)
    (na7__people : PySem.W.findIn K (.ref A7) "_people" = some none)
    {f0 : Addr} {od0 an0 : Option Addr} {sl0 : Array (Option Value)} {oc0 kV0 dc0 pm0 cd0 ct0 : Value}
    (a0 : PySem.W.nsIn K mainGlobals "_law_told" = some (some (.ref f0)))
    (l0 : K.lookup f0 = some ⟨oc0, od0, .func (PySem.W.fnOf "_law_told" "_law_told" (defArgs st_law_told) (defBody st_law_told) (defScope st_law_told) .none kV0 dc0 pm0 an0 cd0 ct0), sl0⟩)
    (c0 : PySem.W.codeIn K cd0 "_law_told" = true)
    (k0 : PySem.W.keepIn K (.ref f0) = true)
    {f1 : Addr} {od1 an1 : Option Addr} {sl1 : Array (Option Value)} {oc1 kV1 dc1 pm1 cd1 ct1 : Value}
    (a1 : PySem.W.nsIn K mainGlobals "_left_to" = some (some (.ref f1)))
    (l1 : K.lookup f1 = some ⟨oc1, od1, .func (PySem.W.fnOf "_left_to" "_left_to" (defArgs st_left_to) (defBody st_left_to) (defScope st_left_to) .none kV1 dc1 pm1 an1 cd1 ct1), sl1⟩)
    (c1 : PySem.W.codeIn K cd1 "_left_to" = true)
    (k1 : PySem.W.keepIn K (.ref f1) = true)
    {f2 : Addr} {od2 an2 : Option Addr} {sl2 : Array (Option Value)} {oc2 kV2 dc2 pm2 cd2 ct2 : Value}
    (a2 : PySem.W.nsIn K mainGlobals "_in_order" = some (some (.ref f2)))
    (l2 : K.lookup f2 = some ⟨oc2, od2, .func (PySem.W.fnOf "_in_order" "_in_order" (defArgs st_in_order) (defBody st_in_order) (defScope st_in_order) .none kV2 dc2 pm2 an2 cd2 ct2), sl2⟩)
    (c2 : PySem.W.codeIn K cd2 "_in_order" = true)
    (k2 : PySem.W.keepIn K (.ref f2) = true)
    {f3 : Addr} {od3 an3 : Option Addr} {sl3 : Array (Option Value)} {oc3 kV3 dc3 pm3 cd3 ct3 : Value}
    (a3 : PySem.W.nsIn K mainGlobals "are_unlike_steps" = some (some (.ref f3)))
    (l3 : K.lookup f3 = some ⟨oc3, od3, .func (PySem.W.fnOf "are_unlike_steps" "are_unlike_steps" (defArgs st_p_are_unlike_steps) (defBody st_p_are_unlike_steps) (defScope st_p_are_unlike_steps) .none kV3 dc3 pm3 an3 cd3 ct3), sl3⟩)
    (c3 : PySem.W.codeIn K cd3 "are_unlike_steps" = true)
    (k3 : PySem.W.keepIn K (.ref f3) = true)
    {f4 : Addr} {od4 an4 : Option Addr} {sl4 : Array (Option Value)} {oc4 kV4 dc4 pm4 cd4 ct4 : Value}
    (a4 : PySem.W.nsIn K mainGlobals "is_name" = some (some (.ref f4)))
    (l4 : K.lookup f4 = some ⟨oc4, od4, .func (PySem.W.fnOf "is_name" "is_name" (defArgs st_p_is_name) (defBody st_p_is_name) (defScope st_p_is_name) .none kV4 dc4 pm4 an4 cd4 ct4), sl4⟩)
    (c4 : PySem.W.codeIn K cd4 "is_name" = true)
    (k4 : PySem.W.keepIn K (.ref f4) = true)
    {f5 : Addr} {od5 an5 : Option Addr} {sl5 : Array (Option Value)} {oc5 kV5 dc5 pm5 cd5 ct5 : Value}
    (a5 : PySem.W.nsIn K mainGlobals "is_person" = some (some (.ref f5)))
    (l5 : K.lookup f5 = some ⟨oc5, od5, .func (PySem.W.fnOf "is_person" "is_person" (defArgs st_p_is_person) (defBody st_p_is_person) (defScope st_p_is_person) .none kV5 dc5 pm5 an5 cd5 ct5), sl5⟩)
    (c5 : PySem.W.codeIn K cd5 "is_person" = true)
    (k5 : PySem.W.keepIn K (.ref f5) = true)
    {f6 : Addr} {od6 an6 : Option Addr} {sl6 : Array (Option Value)} {oc6 kV6 dc6 pm6 cd6 ct6 : Value}
    (a6 : PySem.W.nsIn K mainGlobals "_check_people" = some (some (.ref f6)))
    (l6 : K.lookup f6 = some ⟨oc6, od6, .func (PySem.W.fnOf "_check_people" "_check_people" (defArgs st_check_people) (defBody st_check_people) (defScope st_check_people) .none kV6 dc6 pm6 an6 cd6 ct6), sl6⟩)
    (c6 : PySem.W.codeIn K cd6 "_check_people" = true)
    (k6 : PySem.W.keepIn K (.ref f6) = true)
    {f7 : Addr} {od7 an7 : Option Addr} {sl7 : Array (Option Value)} {oc7 kV7 dc7 pm7 cd7 ct7 : Value}
    (a7 : PySem.W.nsIn K mainGlobals "_check_steps" = some (some (.ref f7)))
    (l7 : K.lookup f7 = some ⟨oc7, od7, .func (PySem.W.fnOf "_check_steps" "_check_steps" (defArgs st_check_steps) (defBody st_check_steps) (defScope st_check_steps) .none kV7 dc7 pm7 an7 cd7 ct7), sl7⟩)
    (c7 : PySem.W.codeIn K cd7 "_check_steps" = true)
    (k7 : PySem.W.keepIn K (.ref f7) = true)
    {f8 : Addr} {od8 an8 : Option Addr} {sl8 : Array (Option Value)} {oc8 kV8 dc8 pm8 cd8 ct8 : Value}
    (a8 : PySem.W.findIn K (.ref A7) "__init__" = some (some (.ref f8)))
    (i8 : PySem.W.isFn K (.ref f8) = true)
    (mk8 : PySem.W.makesIn K A7 = true)
    (kc8 : PySem.W.keepIn K (.ref A7) = true)
    (l8 : K.lookup f8 = some ⟨oc8, od8, .func (PySem.W.fnOf "__init__" "Staff.__init__" (defArgs st_p_Staff___init__) (defBody st_p_Staff___init__) (defScope st_p_Staff___init__) .none kV8 dc8 pm8 an8 cd8 ct8), sl8⟩)
    (c8 : PySem.W.codeIn K cd8 "Staff.__init__" = true)
    (k8 : PySem.W.keepIn K (.ref f8) = true)
    {f9 : Addr} {od9 an9 : Option Addr} {sl9 : Array (Option Value)} {oc9 kV9 dc9 pm9 cd9 ct9 : Value}
    {P9 : Addr} {R9 : List Value} (pa9 : PySem.W.findIn K (.ref A7) "names" = some (some (.ref P9)))
    (pt9 : PySem.W.specialIn K (.ref P9) "__get__" = some (some (.builtin "property.__get__")))
    (pk9 : PySem.W.takesIn K (.ref P9) = some true)
    (pr9 : PySem.W.recIn K P9 "property" = some (.ref f9 :: R9))
    (l9 : K.lookup f9 = some ⟨oc9, od9, .func (PySem.W.fnOf "names" "Staff.names" (defArgs st_p_Staff_names) (defBody st_p_Staff_names) (defScope st_p_Staff_names) .none kV9 dc9 pm9 an9 cd9 ct9), sl9⟩)
    (c9 : PySem.W.codeIn K cd9 "Staff.names" = true)
    (k9 : PySem.W.keepIn K (.ref f9) = true)
    {f10 : Addr} {od10 an10 : Option Addr} {sl10 : Array (Option Value)} {oc10 kV10 dc10 pm10 cd10 ct10 : Value}
    (a10 : PySem.W.findIn K (.ref A7) "__contains__" = some (some (.ref f10)))
    (i10 : PySem.W.isFn K (.ref f10) = true)
    (l10 : K.lookup f10 = some ⟨oc10, od10, .func (PySem.W.fnOf "__contains__" "Staff.__contains__" (defArgs st_p_Staff___contains__) (defBody st_p_Staff___contains__) (defScope st_p_Staff___contains__) .none kV10 dc10 pm10 an10 cd10 ct10), sl10⟩)
    (c10 : PySem.W.codeIn K cd10 "Staff.__contains__" = true)
    (k10 : PySem.W.keepIn K (.ref f10) = true)
    {f11 : Addr} {od11 an11 : Option Addr} {sl11 : Array (Option Value)} {oc11 kV11 dc11 pm11 cd11 ct11 : Value}
    (a11 : PySem.W.findIn K (.ref A7) "only" = some (some (.ref f11)))
    (i11 : PySem.W.isFn K (.ref f11) = true)
    (l11 : K.lookup f11 = some ⟨oc11, od11, .func (PySem.W.fnOf "only" "Staff.only" (defArgs st_p_Staff_only) (defBody st_p_Staff_only) (defScope st_p_Staff_only) .none kV11 dc11 pm11 an11 cd11 ct11), sl11⟩)
    (c11 : PySem.W.codeIn K cd11 "Staff.only" = true)
    (k11 : PySem.W.keepIn K (.ref f11) = true)
    {f12 : Addr} {od12 an12 : Option Addr} {sl12 : Array (Option Value)} {oc12 kV12 dc12 pm12 cd12 ct12 : Value}
    (a12 : PySem.W.findIn K (.ref A7) "without" = some (some (.ref f12)))
    (i12 : PySem.W.isFn K (.ref f12) = true)
    (l12 : K.lookup f12 = some ⟨oc12, od12, .func (PySem.W.fnOf "without" "Staff.without" (defArgs st_p_Staff_without) (defBody st_p_Staff_without) (defScope st_p_Staff_without) .none kV12 dc12 pm12 an12 cd12 ct12), sl12⟩)
    (c12 : PySem.W.codeIn K cd12 "Staff.without" = true)
    (k12 : PySem.W.keepIn K (.ref f12) = true)
    {f13 : Addr} {od13 an13 : Option Addr} {sl13 : Array (Option Value)} {oc13 kV13 dc13 pm13 cd13 ct13 : Value}
    (a13 : PySem.W.findIn K (.ref A7) "able" = some (some (.ref f13)))
    (i13 : PySem.W.isFn K (.ref f13) = true)
    (l13 : K.lookup f13 = some ⟨oc13, od13, .func (PySem.W.fnOf "able" "Staff.able" (defArgs st_p_Staff_able) (defBody st_p_Staff_able) (defScope st_p_Staff_able) .none kV13 dc13 pm13 an13 cd13 ct13), sl13⟩)
    (c13 : PySem.W.codeIn K cd13 "Staff.able" = true)
    (k13 : PySem.W.keepIn K (.ref f13) = true)
    {f14 : Addr} {od14 an14 : Option Addr} {sl14 : Array (Option Value)} {oc14 kV14 dc14 pm14 cd14 ct14 : Value}
    (a14 : PySem.W.findIn K (.ref A7) "_person" = some (some (.ref f14)))
    (i14 : PySem.W.isFn K (.ref f14) = true)
    (l14 : K.lookup f14 = some ⟨oc14, od14, .func (PySem.W.fnOf "_person" "Staff._person" (defArgs st_p_Staff__person) (defBody st_p_Staff__person) (defScope st_p_Staff__person) .none kV14 dc14 pm14 an14 cd14 ct14), sl14⟩)
    (c14 : PySem.W.codeIn K cd14 "Staff._person" = true)
    (k14 : PySem.W.keepIn K (.ref f14) = true)
    {f15 : Addr} {od15 an15 : Option Addr} {sl15 : Array (Option Value)} {oc15 kV15 dc15 pm15 cd15 ct15 : Value}
    (a15 : PySem.W.findIn K (.ref A7) "list_of" = some (some (.ref f15)))
    (i15 : PySem.W.isFn K (.ref f15) = true)
    (l15 : K.lookup f15 = some ⟨oc15, od15, .func (PySem.W.fnOf "list_of" "Staff.list_of" (defArgs st_p_Staff_list_of) (defBody st_p_Staff_list_of) (defScope st_p_Staff_list_of) .none kV15 dc15 pm15 an15 cd15 ct15), sl15⟩)
    (c15 : PySem.W.codeIn K cd15 "Staff.list_of" = true)
    (k15 : PySem.W.keepIn K (.ref f15) = true)
    {f16 : Addr} {od16 an16 : Option Addr} {sl16 : Array (Option Value)} {oc16 kV16 dc16 pm16 cd16 ct16 : Value}
    (a16 : PySem.W.findIn K (.ref A7) "group" = some (some (.ref f16)))
    (i16 : PySem.W.isFn K (.ref f16) = true)
    (l16 : K.lookup f16 = some ⟨oc16, od16, .func (PySem.W.fnOf "group" "Staff.group" (defArgs st_p_Staff_group) (defBody st_p_Staff_group) (defScope st_p_Staff_group) .none kV16 dc16 pm16 an16 cd16 ct16), sl16⟩)
    (c16 : PySem.W.codeIn K cd16 "Staff.group" = true)
    (k16 : PySem.W.keepIn K (.ref f16) = true)
    {f17 : Addr} {od17 an17 : Option Addr} {sl17 : Array (Option Value)} {oc17 kV17 dc17 pm17 cd17 ct17 : Value}
    (a17 : PySem.W.nsIn K mainGlobals "_law_asked" = some (some (.ref f17)))
    (l17 : K.lookup f17 = some ⟨oc17, od17, .func (PySem.W.fnOf "_law_asked" "_law_asked" (defArgs st_law_asked) (defBody st_law_asked) (defScope st_law_asked) .none kV17 dc17 pm17 an17 cd17 ct17), sl17⟩)
    (c17 : PySem.W.codeIn K cd17 "_law_asked" = true)
    (k17 : PySem.W.keepIn K (.ref f17) = true)
    {f18 : Addr} {od18 an18 : Option Addr} {sl18 : Array (Option Value)} {oc18 kV18 dc18 pm18 cd18 ct18 : Value}
    (a18 : PySem.W.nsIn K mainGlobals "_law_made" = some (some (.ref f18)))
    (l18 : K.lookup f18 = some ⟨oc18, od18, .func (PySem.W.fnOf "_law_made" "_law_made" (defArgs st_law_made) (defBody st_law_made) (defScope st_law_made) .none kV18 dc18 pm18 an18 cd18 ct18), sl18⟩)
    (c18 : PySem.W.codeIn K cd18 "_law_made" = true)
    (k18 : PySem.W.keepIn K (.ref f18) = true)
    {f19 : Addr} {od19 an19 : Option Addr} {sl19 : Array (Option Value)} {oc19 kV19 dc19 pm19 cd19 ct19 : Value}
    (a19 : PySem.W.nsIn K mainGlobals "_law_odd_people" = some (some (.ref f19)))
    (l19 : K.lookup f19 = some ⟨oc19, od19, .func (PySem.W.fnOf "_law_odd_people" "_law_odd_people" (defArgs st_law_odd_people) (defBody st_law_odd_people) (defScope st_law_odd_people) .none kV19 dc19 pm19 an19 cd19 ct19), sl19⟩)
    (c19 : PySem.W.codeIn K cd19 "_law_odd_people" = true)
    (k19 : PySem.W.keepIn K (.ref f19) = true)
    {f20 : Addr} {od20 an20 : Option Addr} {sl20 : Array (Option Value)} {oc20 kV20 dc20 pm20 cd20 ct20 : Value}
    (a20 : PySem.W.nsIn K mainGlobals "_law_doubles_right" = some (some (.ref f20)))
    (l20 : K.lookup f20 = some ⟨oc20, od20, .func (PySem.W.fnOf "_law_doubles_right" "_law_doubles_right" (defArgs st_law_doubles_right) (defBody st_law_doubles_right) (defScope st_law_doubles_right) .none kV20 dc20 pm20 an20 cd20 ct20), sl20⟩)
    (c20 : PySem.W.codeIn K cd20 "_law_doubles_right" = true)
    (k20 : PySem.W.keepIn K (.ref f20) = true)
    {f21 : Addr} {od21 an21 : Option Addr} {sl21 : Array (Option Value)} {oc21 kV21 dc21 pm21 cd21 ct21 : Value}
    (a21 : PySem.W.nsIn K mainGlobals "_law_take" = some (some (.ref f21)))
    (l21 : K.lookup f21 = some ⟨oc21, od21, .func (PySem.W.fnOf "_law_take" "_law_take" (defArgs st_law_take) (defBody st_law_take) (defScope st_law_take) .none kV21 dc21 pm21 an21 cd21 ct21), sl21⟩)
    (c21 : PySem.W.codeIn K cd21 "_law_take" = true)
    (k21 : PySem.W.keepIn K (.ref f21) = true)
    {f22 : Addr} {od22 an22 : Option Addr} {sl22 : Array (Option Value)} {oc22 kV22 dc22 pm22 cd22 ct22 : Value}
    (a22 : PySem.W.nsIn K mainGlobals "_law_steps_refused" = some (some (.ref f22)))
    (l22 : K.lookup f22 = some ⟨oc22, od22, .func (PySem.W.fnOf "_law_steps_refused" "_law_steps_refused" (defArgs st_law_steps_refused) (defBody st_law_steps_refused) (defScope st_law_steps_refused) .none kV22 dc22 pm22 an22 cd22 ct22), sl22⟩)
    (c22 : PySem.W.codeIn K cd22 "_law_steps_refused" = true)
    (k22 : PySem.W.keepIn K (.ref f22) = true)
    {f23 : Addr} {od23 an23 : Option Addr} {sl23 : Array (Option Value)} {oc23 kV23 dc23 pm23 cd23 ct23 : Value}
    (a23 : PySem.W.nsIn K mainGlobals "_law_pick" = some (some (.ref f23)))
    (l23 : K.lookup f23 = some ⟨oc23, od23, .func (PySem.W.fnOf "_law_pick" "_law_pick" (defArgs st_law_pick) (defBody st_law_pick) (defScope st_law_pick) .none kV23 dc23 pm23 an23 cd23 ct23), sl23⟩)
    (c23 : PySem.W.codeIn K cd23 "_law_pick" = true)
    (k23 : PySem.W.keepIn K (.ref f23) = true)
    {f24 : Addr} {od24 an24 : Option Addr} {sl24 : Array (Option Value)} {oc24 kV24 dc24 pm24 cd24 ct24 : Value}
    (a24 : PySem.W.nsIn K mainGlobals "_law_drawn_staff" = some (some (.ref f24)))
    (l24 : K.lookup f24 = some ⟨oc24, od24, .func (PySem.W.fnOf "_law_drawn_staff" "_law_drawn_staff" (defArgs st_law_drawn_staff) (defBody st_law_drawn_staff) (defScope st_law_drawn_staff) .none kV24 dc24 pm24 an24 cd24 ct24), sl24⟩)
    (c24 : PySem.W.codeIn K cd24 "_law_drawn_staff" = true)
    (k24 : PySem.W.keepIn K (.ref f24) = true)
    {f25 : Addr} {od25 an25 : Option Addr} {sl25 : Array (Option Value)} {oc25 kV25 dc25 pm25 cd25 ct25 : Value}
    (a25 : PySem.W.nsIn K mainGlobals "_law_feed" = some (some (.ref f25)))
    (l25 : K.lookup f25 = some ⟨oc25, od25, .func (PySem.W.fnOf "_law_feed" "_law_feed" (defArgs st_law_feed) (defBody st_law_feed) (defScope st_law_feed) .none kV25 dc25 pm25 an25 cd25 ct25), sl25⟩)
    (c25 : PySem.W.codeIn K cd25 "_law_feed" = true)
    (k25 : PySem.W.keepIn K (.ref f25) = true)
    {f26 : Addr} {od26 an26 : Option Addr} {sl26 : Array (Option Value)} {oc26 kV26 dc26 pm26 cd26 ct26 : Value}
    (a26 : PySem.W.findIn K (.ref A7) "people" = some (some (.ref f26)))
    (i26 : PySem.W.isFn K (.ref f26) = true)
    (l26 : K.lookup f26 = some ⟨oc26, od26, .func (PySem.W.fnOf "people" "Staff.people" (defArgs st_p_Staff_people) (defBody st_p_Staff_people) (defScope st_p_Staff_people) .none kV26 dc26 pm26 an26 cd26 ct26), sl26⟩)
    (c26 : PySem.W.codeIn K cd26 "Staff.people" = true)
    (k26 : PySem.W.keepIn K (.ref f26) = true)
    {f27 : Addr} {od27 an27 : Option Addr} {sl27 : Array (Option Value)} {oc27 kV27 dc27 pm27 cd27 ct27 : Value}
    (a27 : PySem.W.nsIn K mainGlobals "law" = some (some (.ref f27)))
    (l27 : K.lookup f27 = some ⟨oc27, od27, .func (PySem.W.fnOf "law" "law" (defArgs st_p_law) (defBody st_p_law) (defScope st_p_law) .none kV27 dc27 pm27 an27 cd27 ct27), sl27⟩)
    (c27 : PySem.W.codeIn K cd27 "law" = true)
    (k27 : PySem.W.keepIn K (.ref f27) = true)
    (qx1 : exmB K (fun n => [A0, A1, A2, A3, A4, A5, A6, A7].getD n 0) 7 1 = true)
    (qx2 : exmB K (fun n => [A0, A1, A2, A3, A4, A5, A6, A7].getD n 0) 7 2 = true)
    (qx3 : exmB K (fun n => [A0, A1, A2, A3, A4, A5, A6, A7].getD n 0) 7 3 = true)
    (qx4 : exmB K (fun n => [A0, A1, A2, A3, A4, A5, A6, A7].getD n 0) 7 4 = true)
    (qx5 : exmB K (fun n => [A0, A1, A2, A3, A4, A5, A6, A7].getD n 0) 7 5 = true)
    (qx6 : exmB K (fun n => [A0, A1, A2, A3, A4, A5, A6, A7].getD n 0) 7 6 = true)
    (xf3 : xfB K A3 = true)
    (xf4 : xfB K A4 = true)
    (xf5 : xfB K A5 = true)
    (xf6 : xfB K A6 = true)
    (z_abs : PySem.W.nsIn K mainGlobals "abs" = some none)
    (z_all : PySem.W.nsIn K mainGlobals "all" = some none)
    (z_enumerate : PySem.W.nsIn K mainGlobals "enumerate" = some none)
    (z_int : PySem.W.nsIn K mainGlobals "int" = some none)
    (z_isinstance : PySem.W.nsIn K mainGlobals "isinstance" = some none)
    (z_len : PySem.W.nsIn K mainGlobals "len" = some none)
    (z_list : PySem.W.nsIn K mainGlobals "list" = some none)
    (z_max : PySem.W.nsIn K mainGlobals "max" = some none)
    (z_min : PySem.W.nsIn K mainGlobals "min" = some none)
    (z_range : PySem.W.nsIn K mainGlobals "range" = some none)
    (z_repr : PySem.W.nsIn K mainGlobals "repr" = some none)
    (z_str : PySem.W.nsIn K mainGlobals "str" = some none)
    (z_tuple : PySem.W.nsIn K mainGlobals "tuple" = some none)
    {t_MOST_LETTERS : Tok} (g_MOST_LETTERS : PySem.W.nsIn K mainGlobals "MOST_LETTERS" = some (some (.int 8 t_MOST_LETTERS)))
    {t_MOST_PEOPLE : Tok} (g_MOST_PEOPLE : PySem.W.nsIn K mainGlobals "MOST_PEOPLE" = some (some (.int 8 t_MOST_PEOPLE)))
    {t_MOST_STEPS : Tok} (g_MOST_STEPS : PySem.W.nsIn K mainGlobals "MOST_STEPS" = some (some (.int 6 t_MOST_STEPS)))
    : ∃ (fd : FuncData) (x qual : Str) (st : Stmt) (cl : Nat → Addr), Fun K x qual st fa fd ∧ FnScope N_p_law ["script"] (defScope st) ∧ (∀ (s : Shared) (u : Value), BindsTo s fd ⟨[u], []⟩ [("script", u)]) ∧
        ∀ base : Heap, K.In base → base.Ns mainGlobals mg → ∀ g : Gc, g.K = K → g.cl = cl → g.exn = none → LawBody l.prog w K mg base g qual st N_p_law fa 7 (m_p_law g.ns) := by
  have e := hfa.symm.trans (PySem.W.mg_of X G a27)
  cases e
  have F_law_told := fun_mk (st := st_law_told) l0 c0 k0
  have b_law_told := F_law_told.binds (ps := ["steps", "people"]) fun _ _ _ _ _ _ us hl => match us, hl with | [_, _], _ => rfl
  have F_left_to := fun_mk (st := st_left_to) l1 c1 k1
  have b_left_to := F_left_to.binds (ps := ["step", "keeper", "person"]) fun _ _ _ _ _ _ us hl => match us, hl with | [_, _, _], _ => rfl
  have F_in_order := fun_mk (st := st_in_order) l2 c2 k2
  have b_in_order := F_in_order.binds (ps := ["steps", "person"]) fun _ _ _ _ _ _ us hl => match us, hl with | [_, _], _ => rfl
  have F_p_are_unlike_steps := fun_mk (st := st_p_are_unlike_steps) l3 c3 k3
  have b_p_are_unlike_steps := F_p_are_unlike_steps.binds (ps := ["steps", "value"]) fun _ _ _ _ _ _ us hl => match us, hl with | [_, _], _ => rfl
  have F_p_is_name := fun_mk (st := st_p_is_name) l4 c4 k4
  have b_p_is_name := F_p_is_name.binds (ps := ["value"]) fun _ _ _ _ _ _ us hl => match us, hl with | [_], _ => rfl
  have F_p_is_person := fun_mk (st := st_p_is_person) l5 c5 k5
  have b_p_is_person := F_p_is_person.binds (ps := ["steps", "value"]) fun _ _ _ _ _ _ us hl => match us, hl with | [_, _], _ => rfl
  have F_check_people := fun_mk (st := st_check_people) l6 c6 k6
  have b_check_people := F_check_people.binds (ps := ["steps", "people"]) fun _ _ _ _ _ _ us hl => match us, hl with | [_, _], _ => rfl
  have F_check_steps := fun_mk (st := st_check_steps) l7 c7 k7
  have b_check_steps := F_check_steps.binds (ps := ["steps"]) fun _ _ _ _ _ _ us hl => match us, hl with | [_], _ => rfl
  have F_p_Staff___init__ := fun_mk (st := st_p_Staff___init__) l8 c8 k8
  have b_p_Staff___init__ := F_p_Staff___init__.binds (ps := ["self", "steps", "people"]) fun _ _ _ _ _ _ us hl => match us, hl with | [_, _, _], _ => rfl
  have F_p_Staff_names := fun_mk (st := st_p_Staff_names) l9 c9 k9
  have b_p_Staff_names := F_p_Staff_names.binds (ps := ["self"]) fun _ _ _ _ _ _ us hl => match us, hl with | [_], _ => rfl
  have F_p_Staff___contains__ := fun_mk (st := st_p_Staff___contains__) l10 c10 k10
  have b_p_Staff___contains__ := F_p_Staff___contains__.binds (ps := ["self", "name"]) fun _ _ _ _ _ _ us hl => match us, hl with | [_, _], _ => rfl
  have F_p_Staff_only := fun_mk (st := st_p_Staff_only) l11 c11 k11
  have b_p_Staff_only := F_p_Staff_only.binds (ps := ["self", "step", "name"]) fun _ _ _ _ _ _ us hl => match us, hl with | [_, _, _], _ => rfl
  have F_p_Staff_without := fun_mk (st := st_p_Staff_without) l12 c12 k12
  have b_p_Staff_without := F_p_Staff_without.binds (ps := ["self", "names"]) fun _ _ _ _ _ _ us hl => match us, hl with | [_, _], _ => rfl
  have F_p_Staff_able := fun_mk (st := st_p_Staff_able) l13 c13 k13
  have b_p_Staff_able := F_p_Staff_able.binds (ps := ["self", "step"]) fun _ _ _ _ _ _ us hl => match us, hl with | [_, _], _ => rfl
  have F_p_Staff__person := fun_mk (st := st_p_Staff__person) l14 c14 k14
  have b_p_Staff__person := F_p_Staff__person.binds (ps := ["self", "name"]) fun _ _ _ _ _ _ us hl => match us, hl with | [_, _], _ => rfl
  have F_p_Staff_list_of := fun_mk (st := st_p_Staff_list_of) l15 c15 k15
  have b_p_Staff_list_of := F_p_Staff_list_of.binds (ps := ["self", "name"]) fun _ _ _ _ _ _ us hl => match us, hl with | [_, _], _ => rfl
  have F_p_Staff_group := fun_mk (st := st_p_Staff_group) l16 c16 k16
  have b_p_Staff_group := F_p_Staff_group.binds (ps := ["self", "name"]) fun _ _ _ _ _ _ us hl => match us, hl with | [_, _], _ => rfl
  have F_law_asked := fun_mk (st := st_law_asked) l17 c17 k17
  have b_law_asked := F_law_asked.binds (ps := ["staff", "nth", "value", "other"]) fun _ _ _ _ _ _ us hl => match us, hl with | [_, _, _, _], _ => rfl
  have F_law_made := fun_mk (st := st_law_made) l18 c18 k18
  have b_law_made := F_law_made.binds (ps := ["steps", "people"]) fun _ _ _ _ _ _ us hl => match us, hl with | [_, _], _ => rfl
  have F_law_odd_people := fun_mk (st := st_law_odd_people) l19 c19 k19
  have b_law_odd_people := F_law_odd_people.binds (ps := ["steps", "name"]) fun _ _ _ _ _ _ us hl => match us, hl with | [_, _], _ => rfl
  have F_law_doubles_right := fun_mk (st := st_law_doubles_right) l20 c20 k20
  have b_law_doubles_right := F_law_doubles_right.binds (ps := ["feed", "steps"]) fun _ _ _ _ _ _ us hl => match us, hl with | [_, _], _ => rfl
  have F_law_take := fun_mk (st := st_law_take) l21 c21 k21
  have b_law_take := F_law_take.binds (ps := ["feed", "bound"]) fun _ _ _ _ _ _ us hl => match us, hl with | [_, _], _ => rfl
  have F_law_steps_refused := fun_mk (st := st_law_steps_refused) l22 c22 k22
  have b_law_steps_refused := F_law_steps_refused.binds (ps := ["feed", "steps"]) fun _ _ _ _ _ _ us hl => match us, hl with | [_, _], _ => rfl
  have F_law_pick := fun_mk (st := st_law_pick) l23 c23 k23
  have b_law_pick := F_law_pick.binds (ps := ["feed", "some"]) fun _ _ _ _ _ _ us hl => match us, hl with | [_, _], _ => rfl
  have F_law_drawn_staff := fun_mk (st := st_law_drawn_staff) l24 c24 k24
  have b_law_drawn_staff := F_law_drawn_staff.binds (ps := ["feed", "steps_most", "people_most"]) fun _ _ _ _ _ _ us hl => match us, hl with | [_, _, _], _ => rfl
  have F_law_feed := fun_mk (st := st_law_feed) l25 c25 k25
  have b_law_feed := F_law_feed.binds (ps := ["script", "k"]) fun _ _ _ _ _ _ us hl => match us, hl with | [_, _], _ => rfl
  have F_p_Staff_people := fun_mk (st := st_p_Staff_people) l26 c26 k26
  have b_p_Staff_people := F_p_Staff_people.binds (ps := ["self"]) fun _ _ _ _ _ _ us hl => match us, hl with | [_], _ => rfl
  have F_p_law := fun_mk (st := st_p_law) l27 c27 k27
  have b_p_law := F_p_law.binds (ps := ["script"]) fun _ _ _ _ _ _ us hl => match us, hl with | [_], _ => rfl
  refine ⟨_, "law", "law", st_p_law, (fun n => [A0, A1, A2, A3, A4, A5, A6, A7].getD n 0), F_p_law, sc_p_law, fun s v => .of_eq rfl, fun base _ _ g hK hc hx => ?_⟩
  have m1 : mg "NoList" = some (.ref (g.cl 1)) := by rw [hc]; exact PySem.W.mg_of X G ca1
  have x1 : Xc0 K mg "NoList" (g.cl 1) := by rw [hc]; exact ⟨PySem.W.mg_of X G ca1, kx1, xp1, bp1, tp1⟩
  have m2 : mg "BadCount" = some (.ref (g.cl 2)) := by rw [hc]; exact PySem.W.mg_of X G ca2
  have x2 : Xc0 K mg "BadCount" (g.cl 2) := by rw [hc]; exact ⟨PySem.W.mg_of X G ca2, kx2, xp2, bp2, tp2⟩
  have m3 : mg "BadStep" = some (.ref (g.cl 3)) := by rw [hc]; exact PySem.W.mg_of X G ca3
  have F3 := fun_mk (st := clsS (topS 5)) il3 ic3 ik3
  have x3 : Xcf l.prog w K mg base "BadStep" "number" (g.cl 3) := by rw [hc]; exact xcf_mk (PySem.W.mg_of X G ca3) (oex_mk lk3 rf3 sa3 bp3 tp3 kx3) in3 ti3 nf3 F3 si_BadStep rfl (F3.binds (ps := ["self", "number"]) fun _ _ _ _ _ _ us hl => match us, hl with | [_, _], _ => rfl) (fun s p u => .of_eq rfl) (by first | exact Or.inl rfl | exact Or.inr (Or.inl rfl) | exact Or.inr (Or.inr rfl)) (by first | exact Or.inl rfl | exact Or.inr (Or.inl rfl) | exact Or.inr (Or.inr rfl)) (by decide) (by decide) (fun X => rfl)
  have m4 : mg "BadPerson" = some (.ref (g.cl 4)) := by rw [hc]; exact PySem.W.mg_of X G ca4
  have F4 := fun_mk (st := clsS (topS 6)) il4 ic4 ik4
  have x4 : Xcf l.prog w K mg base "BadPerson" "number" (g.cl 4) := by rw [hc]; exact xcf_mk (PySem.W.mg_of X G ca4) (oex_mk lk4 rf4 sa4 bp4 tp4 kx4) in4 ti4 nf4 F4 si_BadPerson rfl (F4.binds (ps := ["self", "number"]) fun _ _ _ _ _ _ us hl => match us, hl with | [_, _], _ => rfl) (fun s p u => .of_eq rfl) (by first | exact Or.inl rfl | exact Or.inr (Or.inl rfl) | exact Or.inr (Or.inr rfl)) (by first | exact Or.inl rfl | exact Or.inr (Or.inl rfl) | exact Or.inr (Or.inr rfl)) (by decide) (by decide) (fun X => rfl)
  have m5 : mg "NoStep" = some (.ref (g.cl 5)) := by rw [hc]; exact PySem.W.mg_of X G ca5
  have F5 := fun_mk (st := clsS (topS 7)) il5 ic5 ik5
  have x5 : Xcf l.prog w K mg base "NoStep" "name" (g.cl 5) := by rw [hc]; exact xcf_mk (PySem.W.mg_of X G ca5) (oex_mk lk5 rf5 sa5 bp5 tp5 kx5) in5 ti5 nf5 F5 si_NoStep rfl (F5.binds (ps := ["self", "name"]) fun _ _ _ _ _ _ us hl => match us, hl with | [_, _], _ => rfl) (fun s p u => .of_eq rfl) (by first | exact Or.inl rfl | exact Or.inr (Or.inl rfl) | exact Or.inr (Or.inr rfl)) (by first | exact Or.inl rfl | exact Or.inr (Or.inl rfl) | exact Or.inr (Or.inr rfl)) (by decide) (by decide) (fun X => rfl)
  have m6 : mg "NoPerson" = some (.ref (g.cl 6)) := by rw [hc]; exact PySem.W.mg_of X G ca6
  have F6 := fun_mk (st := clsS (topS 8)) il6 ic6 ik6
  have x6 : Xcf l.prog w K mg base "NoPerson" "name" (g.cl 6) := by rw [hc]; exact xcf_mk (PySem.W.mg_of X G ca6) (oex_mk lk6 rf6 sa6 bp6 tp6 kx6) in6 ti6 nf6 F6 si_NoPerson rfl (F6.binds (ps := ["self", "name"]) fun _ _ _ _ _ _ us hl => match us, hl with | [_, _], _ => rfl) (fun s p u => .of_eq rfl) (by first | exact Or.inl rfl | exact Or.inr (Or.inl rfl) | exact Or.inr (Or.inr rfl)) (by first | exact Or.inl rfl | exact Or.inr (Or.inl rfl) | exact Or.inr (Or.inr rfl)) (by decide) (by decide) (fun X => rfl)
  have m7 : mg "Staff" = some (.ref (g.cl 7)) := by rw [hc]; exact PySem.W.mg_of X G ca7
  have T7 : Cls K (g.cl 7) := by rw [hc]; exact ⟨pg7, hd7, po7, sa7⟩
  have B : Fx l.prog w K mg base g := ⟨hK.symm, hx, PySem.W.mg_none_of X G z_abs, PySem.W.mg_none_of X G z_all, PySem.W.mg_none_of X G z_enumerate, PySem.W.mg_none_of X G z_int, PySem.W.mg_none_of X G z_isinstance, PySem.W.mg_none_of X G z_len, PySem.W.mg_none_of X G z_list, PySem.W.mg_none_of X G z_max, PySem.W.mg_none_of X G z_min, PySem.W.mg_none_of X G z_range, PySem.W.mg_none_of X G z_repr, PySem.W.mg_none_of X G z_str, PySem.W.mg_none_of X G z_tuple, ⟨_, PySem.W.mg_of X G g_MOST_LETTERS⟩, ⟨_, PySem.W.mg_of X G g_MOST_PEOPLE⟩, ⟨_, PySem.W.mg_of X G g_MOST_STEPS⟩, m1, x1, m2, x2, m3, x3, m4, x4, m5, x5, m6, x6, (by rw [hc]; exact exmB_ok qx1), (by rw [hc]; exact exmB_ok qx2), (by rw [hc]; exact exmB_ok qx3), (by rw [hc]; exact exmB_ok qx4), (by rw [hc]; exact exmB_ok qx5), (by rw [hc]; exact exmB_ok qx6), (by rw [hc]; exact xfB_ok xf3), (by rw [hc]; exact nf3), (by rw [hc]; exact xfB_ok xf4), (by rw [hc]; exact nf4), (by rw [hc]; exact xfB_ok xf5), (by rw [hc]; exact nf5), (by rw [hc]; exact xfB_ok xf6), (by rw [hc]; exact nf6), m7, T7, (by rw [hc]; exact na7__steps), (by rw [hc]; exact na7__people)⟩
  have G_law_told := ok_law_told (P := l.prog) (w := w) B F_law_told
  have G_left_to := ok_left_to (P := l.prog) (w := w) B F_left_to
  have G_in_order := ok_in_order (P := l.prog) (w := w) B F_in_order
  have G_p_are_unlike_steps := ok_p_are_unlike_steps (P := l.prog) (w := w) B F_p_are_unlike_steps
  have G_p_is_name := ok_p_is_name (P := l.prog) (w := w) B F_p_is_name
  have G_p_is_person := ok_p_is_person (P := l.prog) (w := w) B F_p_is_person G_p_are_unlike_steps b_p_are_unlike_steps (PySem.W.mg_of X G a3) k3 G_p_is_name b_p_is_name (PySem.W.mg_of X G a4) k4
  have G_check_people := ok_check_people (P := l.prog) (w := w) B F_check_people G_p_is_person b_p_is_person (PySem.W.mg_of X G a5) k5
  have G_check_steps := ok_check_steps (P := l.prog) (w := w) B F_check_steps G_p_is_name b_p_is_name (PySem.W.mg_of X G a4) k4
  have G_p_Staff___init__ := ok_p_Staff___init__ (P := l.prog) (w := w) B F_p_Staff___init__ G_in_order b_in_order (PySem.W.mg_of X G a2) k2 G_check_people b_check_people (PySem.W.mg_of X G a6) k6 G_check_steps b_check_steps (PySem.W.mg_of X G a7) k7
  have G_p_Staff_names := ok_p_Staff_names (P := l.prog) (w := w) B F_p_Staff_names
  have G_p_Staff___contains__ := ok_p_Staff___contains__ (P := l.prog) (w := w) B F_p_Staff___contains__ G_p_Staff_names b_p_Staff_names (by rw [hc]; exact ⟨pa9, pt9, pk9, _, pr9⟩)
  have G_p_Staff_only := ok_p_Staff_only (P := l.prog) (w := w) B F_p_Staff_only G_p_Staff___init__ b_p_Staff___init__ (by rw [hc]; exact ⟨mk8, a8, i8, kc8⟩) G_left_to b_left_to (PySem.W.mg_of X G a1) k1 G_p_Staff___contains__ b_p_Staff___contains__ (by rw [hc]; exact ⟨a10, i10, k10⟩)
  have G_p_Staff_without := ok_p_Staff_without (P := l.prog) (w := w) B F_p_Staff_without G_p_Staff___init__ b_p_Staff___init__ (by rw [hc]; exact ⟨mk8, a8, i8, kc8⟩) G_p_Staff___contains__ b_p_Staff___contains__ (by rw [hc]; exact ⟨a10, i10, k10⟩)
  have G_p_Staff_able := ok_p_Staff_able (P := l.prog) (w := w) B F_p_Staff_able
  have G_p_Staff__person := ok_p_Staff__person (P := l.prog) (w := w) B F_p_Staff__person
  have G_p_Staff_list_of := ok_p_Staff_list_of (P := l.prog) (w := w) B F_p_Staff_list_of G_p_Staff__person b_p_Staff__person (by rw [hc]; exact ⟨a14, i14, k14⟩)
  have G_p_Staff_group := ok_p_Staff_group (P := l.prog) (w := w) B F_p_Staff_group G_p_Staff__person b_p_Staff__person (by rw [hc]; exact ⟨a14, i14, k14⟩)
  have G_law_asked := ok_law_asked (P := l.prog) (w := w) B F_law_asked G_p_Staff_only b_p_Staff_only (by rw [hc]; exact ⟨a11, i11, k11⟩) G_p_Staff_without b_p_Staff_without (by rw [hc]; exact ⟨a12, i12, k12⟩) G_p_Staff_able b_p_Staff_able (by rw [hc]; exact ⟨a13, i13, k13⟩) G_p_Staff_list_of b_p_Staff_list_of (by rw [hc]; exact ⟨a15, i15, k15⟩) G_p_Staff_group b_p_Staff_group (by rw [hc]; exact ⟨a16, i16, k16⟩)
  have G_law_made := ok_law_made (P := l.prog) (w := w) B F_law_made G_p_Staff___init__ b_p_Staff___init__ (by rw [hc]; exact ⟨mk8, a8, i8, kc8⟩)
  have G_law_odd_people := ok_law_odd_people (P := l.prog) (w := w) B F_law_odd_people
  have G_law_doubles_right := ok_law_doubles_right (P := l.prog) (w := w) B F_law_doubles_right G_law_made b_law_made (PySem.W.mg_of X G a18) k18
  have G_law_take := ok_law_take (P := l.prog) (w := w) B F_law_take
  have G_law_steps_refused := ok_law_steps_refused (P := l.prog) (w := w) B F_law_steps_refused G_law_made b_law_made (PySem.W.mg_of X G a18) k18 G_law_take b_law_take (PySem.W.mg_of X G a21) k21
  have G_law_pick := ok_law_pick (P := l.prog) (w := w) B F_law_pick G_law_take b_law_take (PySem.W.mg_of X G a21) k21
  have G_law_drawn_staff := ok_law_drawn_staff (P := l.prog) (w := w) B F_law_drawn_staff G_law_pick b_law_pick (PySem.W.mg_of X G a23) k23 G_law_take b_law_take (PySem.W.mg_of X G a21) k21
  have G_law_feed := ok_law_feed (P := l.prog) (w := w) B F_law_feed
  have G_p_Staff_people := ok_p_Staff_people (P := l.prog) (w := w) B F_p_Staff_people
  exact body_law (P := l.prog) (w := w) B G_p_Staff_people b_p_Staff_people (by rw [hc]; exact ⟨a26, i26, k26⟩) G_law_told b_law_told (PySem.W.mg_of X G a0) k0 G_law_asked b_law_asked (PySem.W.mg_of X G a17) k17 G_p_Staff___contains__ b_p_Staff___contains__ (by rw [hc]; exact ⟨a10, i10, k10⟩) G_p_Staff___init__ b_p_Staff___init__ (by rw [hc]; exact ⟨mk8, a8, i8, kc8⟩) G_law_made b_law_made (PySem.W.mg_of X G a18) k18 G_law_odd_people b_law_odd_people (PySem.W.mg_of X G a19) k19 G_law_doubles_right b_law_doubles_right (PySem.W.mg_of X G a20) k20 G_law_steps_refused b_law_steps_refused (PySem.W.mg_of X G a22) k22 G_law_take b_law_take (PySem.W.mg_of X G a21) k21 G_law_drawn_staff b_law_drawn_staff (PySem.W.mg_of X G a24) k24 G_law_feed b_law_feed (PySem.W.mg_of X G a25) k25
end Law
set_option Elab.async false
set_option linter.all false
set_option maxRecDepth 100000
set_option maxHeartbeats 4100000
namespace Law
open PySem PySem.Spec PyProof.Rows L2 Vm
/-! ### draws -/
abbrev fd (d s : Int) : O := .lst [.int d, .int s]
theorem p_take (ns : List Int) (d s b : Int) (hb : 0 < b) (hb2 : b < 1073741824) : ∃ r d' s', 0 ≤ r ∧ r < b ∧ p_law_take ns (fd d s) [.int b] = .ok (.int r) (fd d' s') := by
  by_cases hd : 0 < d
  · refine ⟨d % b, d / b, s, Int.emod_nonneg _ (by omega), Int.emod_lt_of_pos _ hb, ?_⟩
    simp [slotsOf, sSeq, sIf, sAsg, sRet, sRetN, sE, sPut, Vm.putIn, bV, bNot, bAnd, bOr, m2, m1, mV, mC, mBt, mCall, lC, lN, R.bind, R.bindS, fIxD, seqOf, fGt, fLt, fLe, fGe, fSub, fMod, fDiv, fPow, fI, asB, fInt, gtN, pureO, pureU, outM, outU, fMulE, fMulD, fAddD, sPass, fAbs, fMax2, fMin2, mIf, mL, newO, fLenD, P0.at, pdOf, p_law_take, pmf, m_law_take, hd, hb, hb2, toM, atI, ixN]
  · refine ⟨(s * 6364136223846793005 + 1442695040888963407) % 2305843009213693951 / 65536 % b, d, (s * 6364136223846793005 + 1442695040888963407) % 2305843009213693951, Int.emod_nonneg _ (by omega), Int.emod_lt_of_pos _ hb, ?_⟩
    simp [slotsOf, sSeq, sIf, sAsg, sRet, sRetN, sE, sPut, Vm.putIn, bV, bNot, bAnd, bOr, m2, m1, mV, mC, mBt, mCall, lC, lN, R.bind, R.bindS, fIxD, seqOf, fGt, fLt, fLe, fGe, fSub, fMod, fDiv, fPow, fI, asB, fInt, gtN, pureO, pureU, outM, outU, fMulE, fMulD, fAddD, sPass, fAbs, fMax2, fMin2, mIf, mL, newO, fLenD, P0.at, pdOf, p_law_take, pmf, m_law_take, hd, hb, hb2, toM, atI, ixN]
/-- a feed stands at k -/
def Fd (h : Mh) (k : Nat) : Prop := ∃ d s, h[k]? = some (fd d s)
theorem Fd.set {h : Mh} {k : Nat} (f : Fd h k) (d s : Int) : Fd (h.set k (fd d s)) k := by
  obtain ⟨d0, s0, e⟩ := f
  refine ⟨d, s, ?_⟩
  rw [List.getElem?_set_self (List.getElem?_eq_some_iff.mp e).1]
theorem d_take {h : Mh} {k : Nat} (ns : List Int) (f : Fd h k) (b : Int) (hb : 0 < b) (hb2 : b < 1073741824) : ∃ r d' s', 0 ≤ r ∧ r < b ∧ d_law_take ns [.loc k, .int b] h = .ok (.int r) (h.set k (fd d' s')) := by
  obtain ⟨d, s, e⟩ := f
  obtain ⟨r, d', s', h1, h2, h3⟩ := p_take ns d s b hb hb2
  refine ⟨r, d', s', h1, h2, ?_⟩
  simp [slotsOf, sSeq, sIf, sAsg, sRet, sRetN, sE, sPut, Vm.putIn, bV, bNot, bAnd, bOr, m2, m1, mV, mC, mBt, mCall, lC, lN, R.bind, R.bindS, fIxD, seqOf, fGt, fLt, fLe, fGe, fSub, fMod, fDiv, fPow, fI, asB, fInt, gtN, pureO, pureU, outM, outU, fMulE, fMulD, fAddD, sPass, fAbs, fMax2, fMin2, mIf, mL, newO, fLenD, P0.at, pdOf, d_law_take, runM, e, h3]
end Law

set_option Elab.async false
set_option linter.all false
set_option maxRecDepth 100000
set_option maxHeartbeats 4100000
namespace Law
open PySem PySem.Spec PyProof.Rows L2 Vm
theorem take0 (ns : List Int) (d s b : Int) (hb : 0 < b) (hb2 : b < 1073741824) : ∃ r d' s', 0 ≤ r ∧ r < b ∧ ∀ t, d_law_take ns [.loc 0, .int b] (fd d s :: t) = .ok (.int r) (fd d' s' :: t) := by
  obtain ⟨r, d', s', h1, h2, h3⟩ := p_take ns d s b hb hb2
  exact ⟨r, d', s', h1, h2, fun t => by simp [slotsOf, sSeq, sIf, sAsg, sRet, sRetN, sE, sPut, Vm.putIn, bV, bNot, bAnd, bOr, m2, m1, mV, mC, mBt, mCall, lC, lN, R.bind, R.bindS, fIxD, seqOf, fGt, fLt, fLe, fGe, fSub, fMod, fDiv, fPow, fI, asB, fInt, gtN, pureO, pureU, outM, outU, fMulE, fMulD, fAddD, sPass, fAbs, fMax2, fMin2, mIf, mL, newO, fLenD, P0.at, pdOf, d_law_take, runM, h3]⟩
theorem atI_nat {α : Type} {xs : List α} {r : Int} (h0 : 0 ≤ r) (h1 : r < xs.length) : ∃ x, x ∈ xs ∧ ∀ {β : Type} (f : α → β), atI (xs.map f) r = some (f x) := by
  obtain ⟨n, rfl⟩ :=
                     Int.eq_ofNat_of_zero_le h0
  have hn : n < xs.length := by omega
  refine ⟨xs[n], List.getElem_mem hn, fun f => ?_⟩
  have e : ixN (xs.map f).length (n : Int) = some n := by
    unfold ixN
    simp [slotsOf, sSeq, sIf, sAsg, sRet, sRetN, sE, sPut, Vm.putIn, bV, bNot, bAnd, bOr, m2, m1, mV, mC, mBt, mCall, lC, lN, R.bind, R.bindS, fIxD, seqOf, fGt, fLt, fLe, fGe, fSub, fMod, fDiv, fPow, fI, asB, fInt, gtN, pureO, pureU, outM, outU, fMulE, fMulD, fAddD, sPass, fAbs, fMax2, fMin2, mIf, mL, newO, fLenD, P0.at, pdOf]
    omega
  unfold atI
  rw [e]
  simp [slotsOf, sSeq, sIf, sAsg, sRet, sRetN, sE, sPut, Vm.putIn, bV, bNot, bAnd, bOr, m2, m1, mV, mC, mBt, mCall, lC, lN, R.bind, R.bindS, fIxD, seqOf, fGt, fLt, fLe, fGe, fSub, fMod, fDiv, fPow, fI, asB, fInt, gtN, pureO, pureU, outM, outU, fMulE, fMulD, fAddD, sPass, fAbs, fMax2, fMin2, mIf, mL, newO, fLenD, P0.at, pdOf, List.getElem?_eq_getElem hn]
theorem p_pick (ns : List Int) (d s : Int) {ds : List PyData} (hd : ds ≠ []) (hl : ds.length < 1073741824) : ∃ x ∈ ds, ∃ d' s', p_law_pick ns (fd d s) [.dat (.list ds)] = .ok (ofPd x) (fd d' s') := by
  have h0 : 0 < ds.length := List.length_pos_iff.mpr hd
  obtain ⟨r, d', s', h1, h2, h3⟩ := take0 ns d s ds.length (by omega) (by omega)
  obtain ⟨x, hx, ex⟩ := atI_nat h1 h2
  refine ⟨x, hx, d', s', ?_⟩
  have e : m_law_pick ns (slotsOf 2 [.loc 0, .dat (.list ds)]) [fd d s] = .rt (ofPd x) [fd d' s'] := by
    unfold m_law_pick
    simp [slotsOf, sSeq, sIf, sAsg, sRet, sRetN, sE, sPut, Vm.putIn, bV, bNot, bAnd, bOr, m2, m1, mV, mC, mBt, mCall, lC, lN, R.bind, R.bindS, fIxD, seqOf, fGt, fLt, fLe, fGe, fSub, fMod, fDiv, fPow, fI, asB, fInt, gtN, pureO, pureU, outM, outU, fMulE, fMulD, fAddD, sPass, fAbs, fMax2, fMin2, mIf, mL, newO, fLenD, P0.at, pdOf, h3, ex ofPd, List.length_map]
  unfold p_law_pick pmf
  rw [e]
  cases x <;> rfl
theorem pick0 (ns : List Int) (d s : Int) {ds : List PyData} (hd : ds ≠ []) (hl : ds.length < 1073741824) : ∃ x ∈ ds, ∃ d' s', ∀ t, d_law_pick ns [.loc 0, .dat (.list ds)] (fd d s :: t) = .ok (ofPd x) (fd d' s' :: t) := by
  obtain ⟨x, hx, d', s', h3⟩ := p_pick ns d s hd hl
  exact ⟨x, hx, d', s', fun t => by simp [slotsOf, sSeq, sIf, sAsg, sRet, sRetN, sE, sPut, Vm.putIn, bV, bNot, bAnd, bOr, m2, m1, mV, mC, mBt, mCall, lC, lN, R.bind, R.bindS, fIxD, seqOf, fGt, fLt, fLe, fGe, fSub, fMod, fDiv, fPow, fI, asB, fInt, gtN, pureO, pureU, outM, outU, fMulE, fMulD, fAddD, sPass, fAbs, fMax2, fMin2, mIf, mL, newO, fLenD, P0.at, pdOf, d_law_pick, runM, h3]⟩
/-- some of a list, drawn one by one -/
theorem some_drawn (ns : List Int) {q : Mb} {s : Sl} {i : Nat} {b : Int} (hb : 0 < b) (hb2 : b < 1073741824) (hi : i < s.length) (hq : ∀ (u : U) d0 s0 r d1 s1 t, d_law_take ns [.loc 0, .int b] (fd d0 s0 :: t) = .ok (.int r) (fd d1 s1 :: t) → q (s.set i (some u)) (fd d0 s0 :: t) = .ok (decide (0 < r)) (fd d1 s1 :: t)) :
    ∀ (l : List Str) (d0 s0 : Int), ∃ l' : List Str, l'.Sublist l ∧ ∃ d1 s1, ∀ t, loopCF (gtN i) q (mV i) s (l.map U.str) (fd d0 s0 :: t) = .ok (l'.map U.str) (fd d1 s1 :: t)
  | [], d0, s0 => ⟨[], .slnil, d0, s0, fun t => rfl⟩
  | x :: l, d0, s0 => by
    obtain ⟨r, d1, s1, _, _, e⟩ := take0 ns d0 s0 b hb hb2
    obtain ⟨l', sl, d2, s2, e2⟩ := some_drawn ns hb hb2 hi hq l d1 s1
    by_cases hr : 0 < r
    · refine ⟨x :: l', sl.cons_cons x, d2, s2, fun t => ?_⟩
      have e1 := hq (.str x) d0 s0 r d1 s1 t (e t)
      rw [decide_eq_true hr] at e1
      rw [List.map_cons, loopCF]
      simp only [gtN]
      rw [e1]
      have ev : mV i (s.set i (some (.str x))) (fd d1 s1 :: t) = .ok (.str x) (fd d1 s1 :: t) := by
        unfold mV
        rw [List.getElem?_set_self hi]
      simp only
      rw [ev]
      simp only
      rw [e2 t]
      rfl
    · refine ⟨l', sl.cons x, d2, s2, fun t => ?_⟩
      have e1 := hq (.str x) d0 s0 r d1 s1 t (e t)
      rw [decide_eq_false hr] at e1
      rw [List.map_cons, loopCF]
      simp only [gtN]
      rw [e1]
      exact e2 t
end Law

set_option Elab.async false
set_option linter.all false
set_option maxRecDepth 100000
set_option maxHeartbeats 4100000
namespace Law
open PySem PySem.Spec PyProof.Rows L2 Vm
/-! ### a drawn staff -/
abbrev Pn := Str × Str × List Str
abbrev eP (p : Pn) : PyData := .tuple [.str p.1, .str p.2.1, .tuple (eS p.2.2)]
def Able (a steps : List Str) : Prop := ∃ l : List Str, l.Sublist steps ∧ (a = l ∨ a = l.reverse)
def folkB (ns : List Int) : Ms := sSeq (sAsg (mLcF (wSeq (mV 4)) (gtN 10) (bV (m2 fGt (mCall (d_law_take ns)  (lC (mV 0) (lC (mC (.int 4)) (lN)))) (mC (.int 0)))) (mV 10) [10]) (gtN 9))
    (sE (mMtL fAppend (mV 7) (lC (mTd (lC (mV 6) (lC (mCall (d_law_pick ns)  (lC (mV 0) (lC (mV 5) (lN)))) (lC (mBt (fTupD) (lC (mIf (bV (m2 fGt (mCall (d_law_take ns)  (lC (mV 0) (lC (mC (.int 3)) (lN)))) (mC (.int 0)))) (mV 9) (m1 fRev (mV 9))) (lN))) (lN))))) (lN))))
structure FolkI (steps house folk : List Str) (a b row fl : U) (us : List U) (s : Sl) (h : Mh) : Prop where
  ex : ∃ (rest : List Str) (ps : List Pn) (d s0 : Int) (x6 x9 x10 : Option U), us = rest.map U.str ∧ h = [fd d s0, .lst (ps.map fun p => .dat (eP p))] ∧
    s = [some (.loc 0), some a, some b, some row, some (.dat (.list (eS steps))), some (.dat (.list (eS house))), x6, some (.loc 1), some fl, x9, x10] ∧
    ps.map (·.1) ++ rest = folk ∧ ∀ p ∈ ps, p.2.1 ∈ house ∧ Able p.2.2 steps
theorem folk_step (ns : List Int) {steps house folk : List Str} {a b row fl : U} (hh : house ≠ []) (hl : house.length ≤ 1000) (sl : steps.length ≤ 1000) (fl1 : folk.length ≤ 1000) (x : U) (us : List U) (s : Sl) (h : Mh) (i : FolkI steps house folk a b row fl (x :: us) s h) :
    ∃ s1 s2 h2, gtN 6 x s h = some s1 ∧ (folkB ns s1 h = .nx s2 h2 ∨ folkB ns s1 h = .ct s2 h2) ∧ FolkI steps house folk a b row fl us s2 h2 := by
  obtain ⟨rest, ps, d, s0, x6, x9, x10, e1, rfl, rfl, e4, e5⟩ := i.ex
  cases rest with
  | nil => cases e1
  | cons nm rest =>
    cases e1
    have hps : ps.length ≤ 1000 := by
      have := congrArg List.length e4
      simp [slotsOf, sSeq, sIf, sAsg, sRet, sRetN, sE, sPut, Vm.putIn, bV, bNot, bAnd, bOr, m2, m1, mV, mC, mBt, mCall, lC, lN, R.bind, R.bindS, fIxD, seqOf, fGt, fLt, fLe, fGe, fSub, fMod, fDiv, fPow, fI, asB, fInt, gtN, pureO, pureU, outM, outU, fMulE, fMulD, fAddD, sPass, fAbs, fMax2, fMin2, mIf, mL, newO, fLenD, P0.at, pdOf] at this
      omega
    obtain ⟨l, sub, d1, s1, q1⟩ := some_drawn ns (q := bV (m2 fGt (mCall (d_law_take ns) (lC (mV 0) (lC (mC (.int 4)) (lN)))) (mC (.int 0)))) (s := wipeM [some (.loc 0), some a, some b, some row, some (.dat (.list (eS steps))), some (.dat (.list (eS house))), some (.str nm), some (.loc 1), some fl, x9, x10] [10]) (i := 10) (b := 4) (by decide) (by decide) (by simp [slotsOf, sSeq, sIf, sAsg, sRet, sRetN, sE, sPut, Vm.putIn, bV, bNot, bAnd, bOr, m2, m1, mV, mC, mBt, mCall, lC, lN, R.bind, R.bindS, fIxD, seqOf, fGt, fLt, fLe, fGe, fSub, fMod, fDiv, fPow, fI, asB, fInt, gtN, pureO, pureU, outM, outU, fMulE, fMulD, fAddD, sPass, fAbs, fMax2, fMin2, mIf, mL, newO, fLenD, P0.at, pdOf, wipeM])
      (fun u d0 s0 r d1 s1 t e => by simp [slotsOf, sSeq, sIf, sAsg, sRet, sRetN, sE, sPut, Vm.putIn, bV, bNot, bAnd, bOr, m2, m1, mV, mC, mBt, mCall, lC, lN, R.bind, R.bindS, fIxD, seqOf, fGt, fLt, fLe, fGe, fSub, fMod, fDiv, fPow, fI, asB, fInt, gtN, pureO, pureU, outM, outU, fMulE, fMulD, fAddD, sPass, fAbs, fMax2, fMin2, mIf, mL, newO, fLenD, P0.at, pdOf, wipeM, e]) steps d s0
    obtain ⟨g, hg, d2, s2, q2⟩ := pick0 ns d1 s1 (ds := eS house) (by simpa [slotsOf, sSeq, sIf, sAsg, sRet, sRetN, sE, sPut, Vm.putIn, bV, bNot, bAnd, bOr, m2, m1, mV, mC, mBt, mCall, lC, lN, R.bind, R.bindS, fIxD, seqOf, fGt, fLt, fLe, fGe, fSub, fMod, fDiv, fPow, fI, asB, fInt, gtN, pureO, pureU, outM, outU, fMulE, fMulD, fAddD, sPass, fAbs, fMax2, fMin2, mIf, mL, newO, fLenD, P0.at, pdOf] using hh) (by simp [slotsOf, sSeq, sIf, sAsg, sRet, sRetN, sE, sPut, Vm.putIn, bV, bNot, bAnd, bOr, m2, m1, mV, mC, mBt, mCall, lC, lN, R.bind, R.bindS, fIxD, seqOf, fGt, fLt, fLe, fGe, fSub, fMod, fDiv, fPow, fI, asB, fInt, gtN, pureO, pureU, outM, outU, fMulE, fMulD, fAddD, sPass, fAbs, fMax2, fMin2, mIf, mL, newO, fLenD, P0.at, pdOf]; omega)
    obtain ⟨gn, hgn, rfl⟩ := List.mem_map.mp hg
    obtain ⟨r, d3, s3, _, _, q3⟩ := take0 ns d2 s2 3 (by decide) (by decide)
    have z1 : decide (steps.length < lim) = true := decide_eq_true (by unfold lim; omega)
    have z2 : okLen ps.length = true := by simp [slotsOf, sSeq, sIf, sAsg, sRet, sRetN, sE, sPut, Vm.putIn, bV, bNot, bAnd, bOr, m2, m1, mV, mC, mBt, mCall, lC, lN, R.bind, R.bindS, fIxD, seqOf, fGt, fLt, fLe, fGe, fSub, fMod, fDiv, fPow, fI, asB, fInt, gtN, pureO, pureU, outM, outU, fMulE, fMulD, fAddD, sPass, fAbs, fMax2, fMin2, mIf, mL, newO, fLenD, P0.at, pdOf, okLen]; omega
    have ll : l.length ≤ 1000 := Nat.le_trans sub.length_le sl
    refine ⟨[some (.loc 0), some a, some b, some row, some (.dat (.list (eS steps))), some (.dat (.list (eS house))), some (.str nm), some (.loc 1), some fl, x9, x10], [some (.loc 0), some a, some b, some row, some (.dat (.list (eS steps))), some (.dat (.list (eS house))), some (.str nm), some (.loc 1), some fl, some (.dat (.list (eS l))), x10],
      [fd d3 s3, .lst ((ps ++ [(nm, gn, if 0 < r then l else l.reverse)]).map fun p => .dat (eP p))], rfl, .inl ?_, ⟨rest, ps ++ [(nm, gn, if 0 < r then l else l.reverse)], d3, s3, _, _, _, rfl, rfl, rfl, by simpa [slotsOf, sSeq, sIf, sAsg, sRet, sRetN, sE, sPut, Vm.putIn, bV, bNot, bAnd, bOr, m2, m1, mV, mC, mBt, mCall, lC, lN, R.bind, R.bindS, fIxD, seqOf, fGt, fLt, fLe, fGe, fSub, fMod, fDiv, fPow, fI, asB, fInt, gtN, pureO, pureU, outM, outU, fMulE, fMulD, fAddD, sPass, fAbs, fMax2, fMin2, mIf, mL, newO, fLenD, P0.at, pdOf] using e4, fun p hp => ?_⟩⟩
    · have c1 : mLcF (wSeq (mV 4)) (gtN 10) (bV (m2 fGt (mCall (d_law_take ns) (lC (mV 0) (lC (mC (.int 4)) (lN)))) (mC (.int 0)))) (mV 10) [10] [some (.loc 0), some a, some b, some row, some (.dat (.list (eS steps))), some (.dat (.list (eS house))), some (.str nm), some (.loc 1), some fl, x9, x10] [fd d s0, .lst (ps.map fun p => .dat (eP p))] = .ok (.dat (.list (eS l))) [fd d1 s1, .lst (ps.map fun p => .dat (eP p))] := by
        unfold mLcF
        simp only [w1Of, mV, R.bind, List.getElem?_cons_succ, List.getElem?_cons_zero, vSeq_list, of_str, List.length_map]
        rw [z1, if_pos rfl, q1]
        simp only
        exact newL_str l _
      unfold folkB
      rw [sSeq, sAsg, c1]
      simp only [R.bindS, gtN, List.set]
      have c2 : mIf (bV (m2 fGt (mCall (d_law_take ns) (lC (mV 0) (lC (mC (.int 3)) (lN)))) (mC (.int 0)))) (mV 9) (m1 fRev (mV 9)) [some (.loc 0), some a, some b, some row, some (.dat (.list (eS steps))), some (.dat (.list (eS house))), some (.str nm), some (.loc 1), some fl, some (.dat (.list (eS l))), x10] [fd d2 s2, .lst (ps.map fun p => .dat (eP p))] = .ok (.dat (.list (eS (if 0 < r then l else l.reverse)))) [fd d3 s3, .lst (ps.map fun p => .dat (eP p))] := by
        by_cases hr : 0 < r
        · simp [slotsOf, sSeq, sIf, sAsg, sRet, sRetN, sE, sPut, Vm.putIn, bV, bNot, bAnd, bOr, m2, m1, mV, mC, mBt, mCall, lC, lN, R.bind, R.bindS, fIxD, seqOf, fGt, fLt, fLe, fGe, fSub, fMod, fDiv, fPow, fI, asB, fInt, gtN, pureO, pureU, outM, outU, fMulE, fMulD, fAddD, sPass, fAbs, fMax2, fMin2, mIf, mL, newO, fLenD, P0.at, pdOf, q3, hr]
        · simp [slotsOf, sSeq, sIf, sAsg, sRet, sRetN, sE, sPut, Vm.putIn, bV, bNot, bAnd, bOr, m2, m1, mV, mC, mBt, mCall, lC, lN, R.bind, R.bindS, fIxD, seqOf, fGt, fLt, fLe, fGe, fSub, fMod, fDiv, fPow, fI, asB, fInt, gtN, pureO, pureU, outM, outU, fMulE, fMulD, fAddD, sPass, fAbs, fMax2, fMin2, mIf, mL, newO, fLenD, P0.at, pdOf, q3, hr, fRev, ← List.map_reverse]
          exact newL_str _ _
      generalize (if 0 < r then l else l.reverse) = m at c2 ⊢
      simp only [sE, mMtL, mV, R.bind, R.bindS, List.getElem?_cons_succ, List.getElem?_cons_zero, isLst, if_true, lC, lN, mTd, mBt, c2, q2, mCall]
      have e7 : pdsOf (List.map ofPd (eS m)) = some (eS m) := pds_of _
      have e8 : ps.length ≤ 100000 := by omega
      simp [slotsOf, sSeq, sIf, sAsg, sRet, sRetN, sE, sPut, Vm.putIn, bV, bNot, bAnd, bOr, m2, m1, mV, mC, mBt, mCall, lC, lN, R.bind, R.bindS, fIxD, seqOf, fGt, fLt, fLe, fGe, fSub, fMod, fDiv, fPow, fI, asB, fInt, gtN, pureO, pureU, outM, outU, fMulE, fMulD, fAddD, sPass, fAbs, fMax2, fMin2, mIf, mL, newO, fLenD, P0.at, pdOf, fTupD, newT, e7, ofPd, pdsOf, okLen, fAppend, e8, -pds_of, -of_str, -List.map_map]
    · rcases List.mem_append.mp
                                hp with hp | hp
      · exact e5 p hp
      · have : p = (nm, gn, if 0 < r then l else l.reverse) := by simpa [slotsOf, sSeq, sIf, sAsg, sRet, sRetN, sE, sPut, Vm.putIn, bV, bNot, bAnd, bOr, m2, m1, mV, mC, mBt, mCall, lC, lN, R.bind, R.bindS, fIxD, seqOf, fGt, fLt, fLe, fGe, fSub, fMod, fDiv, fPow, fI, asB, fInt, gtN, pureO, pureU, outM, outU, fMulE, fMulD, fAddD, sPass, fAbs, fMax2, fMin2, mIf, mL, newO, fLenD, P0.at, pdOf] using hp
        subst this
        refine ⟨hgn, l, sub, ?_⟩
        by_cases hr : 0 < r
        · exact .inl (if_pos hr)
        · exact .inr (if_neg hr)
end Law

set_option Elab.async false
set_option linter.all false
set_option maxRecDepth 100000
set_option maxHeartbeats 4100000
namespace Law
open PySem PySem.Spec PyProof.Rows L2 Vm
theorem cut_hi {α : Type} (xs : List α) (k : Int) (h : 0 ≤ k) : cutU xs none (some k) = xs.take k.toNat := by
  unfold cutU
  have e0 : HT.sIx xs.length 0 none = 0 := rfl
  have e1 : HT.sIx xs.length xs.length (some k) = min k.toNat xs.length := by
    show (if k < 0 then (k + (xs.length : Int)).toNat else min k.toNat xs.length) = min k.toNat xs.length
    rw [if_neg (by omega)]
  rw [e0, e1, List.drop_zero, Nat.sub_zero]
  by_cases hk : k.toNat ≤ xs.length
  · rw [Nat.min_eq_left hk]
  · rw [Nat.min_eq_right (by omega), List.take_length, List.take_of_length_le (by omega)]
theorem fEq_int (i j : Int) (h : Mh) : fEq (.int i) (.int j) h = .ok (.bl (i == j)) h := by
  simp [slotsOf, sSeq, sIf, sAsg, sRet, sRetN, sE, sPut, Vm.putIn, bV, bNot, bAnd, bOr, m2, m1, mV, mC, mBt, mCall, lC, lN, R.bind, R.bindS, fIxD, seqOf, fGt, fLt, fLe, fGe, fSub, fMod, fDiv, fPow, fI, asB, fInt, gtN, pureO, pureU, outM, outU, fMulE, fMulD, fAddD, sPass, fAbs, fMax2, fMin2, mIf, mL, newO, fLenD, P0.at, pdOf, fEq, fEqB, rd, deep, SeqAt.shaped, PyData.canLay0, PyData.depth, PyData.eqv]
def S6 : List Str := ["ask", "as", "bid", "cut", "dig", "finishes"]
def F8 : List Str := ["cid", "ann", "bob", "eve", "dot", "ask", "abcdefgh", "z"]
def H4 : List (List Str) := [["red"], ["red", "sea"], ["sea", "red"], ["ask", "b", "seaports"]]
/-- what is known of a drawn staff -/
structure Drawn (b pm : Int) (steps : List Str) (ps : List Pn) : Prop where
  st : ∃ k : Nat, 1 ≤ k ∧ (k : Int) ≤ b ∧ (steps = S6.take k ∨ steps = (S6.take k).reverse)
  fk : ∃ k : Nat, (k : Int) ≤ pm ∧ ps.map (·.1) = F8.take k
  hs : ∃ house ∈ H4, ∀ p ∈ ps, p.2.1 ∈ house
  ab : ∀ p ∈ ps, Able p.2.2 steps
theorem p_drawn (ns : List Int) (d s b pm : Int) (hb : 0 < b) (hb2 : b ≤ 1000) (hp : 0 ≤ pm) (hp2 : pm ≤ 1000) : ∃ (steps : List Str) (ps : List Pn) (d' s' : Int), Drawn b pm steps ps ∧
    p_law_drawn_staff ns (fd d s) [.int b, .int pm] = .ok (.dat (.list [.list (eS steps), .list (ps.map eP)])) (fd d' s') := by
  obtain ⟨r1, d1, s1, a1, b1, q1⟩ := take0 ns d s b hb (by omega)
  obtain ⟨r2, d2, s2, a2, b2, q2⟩ := take0 ns d1 s1 3 (by decide) (by decide)
  obtain ⟨r3, d3, s3, a3, b3, q3⟩ := take0 ns d2 s2 (pm + 1) (by omega) (by omega)
  obtain ⟨hx, hxm, d4, s4, q4⟩ := pick0 ns d3 s3 (ds := H4.map fun l => .list (eS l)) (by simp [slotsOf, sSeq, sIf, sAsg, sRet, sRetN, sE, sPut, Vm.putIn, bV, bNot, bAnd, bOr, m2, m1, mV, mC, mBt, mCall, lC, lN, R.bind, R.bindS, fIxD, seqOf, fGt, fLt, fLe, fGe, fSub, fMod, fDiv, fPow, fI, asB, fInt, gtN, pureO, pureU, outM, outU, fMulE, fMulD, fAddD, sPass, fAbs, fMax2, fMin2, mIf, mL, newO, fLenD, P0.at, pdOf, H4]) (by simp [slotsOf, sSeq, sIf, sAsg, sRet, sRetN, sE, sPut, Vm.putIn, bV, bNot, bAnd, bOr, m2, m1, mV, mC, mBt, mCall, lC, lN, R.bind, R.bindS, fIxD, seqOf, fGt, fLt, fLe, fGe, fSub, fMod, fDiv, fPow, fI, asB, fInt, gtN, pureO, pureU, outM, outU, fMulE, fMulD, fAddD, sPass, fAbs, fMax2, fMin2, mIf, mL, newO, fLenD, P0.at, pdOf, H4])
  obtain ⟨house, hm, rfl⟩ := List.mem_map.mp hxm
  have hh : house ≠ [] ∧ house.length ≤ 1000 := (show ∀ l ∈ H4, l ≠ [] ∧ l.length ≤ 1000 by decide) house hm
  let row := S6.take (1 + r1).toNat
  let steps := if r2 = 0 then row.reverse else row
  have hsl : steps.length ≤ 1000 := by
    have : steps.length = row.length := by
      show (if r2 = 0 then row.reverse else row).length = row.length
      split
      · exact List.length_reverse
      · rfl
    have h6 : row.length ≤ 6 := Nat.le_trans (List.length_take_le' _ _) (by decide)
    omega
  let folk := F8.take r3.toNat
  have hfl : folk.length ≤ 1000 := Nat.le_trans (List.length_take_le' _ _) (by decide)
  let sl : Sl := [some (.loc 0), some (.int b), some (.int pm), some (.dat (.list (eS row))), some (.dat (.list (eS steps))), some (.dat (.list (eS house))), none, some (.loc 1), some (.dat (.list (eS folk))), none, none]
  obtain ⟨s5, h5, e5, i5⟩ := loopF_inv (t := gtN 6) (b := folkB ns) (I := FolkI steps house folk (.int b) (.int pm) (.dat (.list (eS row))) (.dat (.list (eS folk)))) (fun x us s h i => folk_step ns hh.1 hh.2 hsl hfl x us s h i)
    (us := folk.map U.str) (s := sl) (h := [fd d4 s4, .lst []]) ⟨folk, [], d4, s4, none, none, none, rfl, rfl, rfl, rfl, fun p hp => nomatch hp⟩
  obtain ⟨rest, ps, d6, s6, x6, x9, x10, z1, rfl, rfl, z4, z5⟩ := i5.ex
  cases rest with
  | cons _ _ => cases z1
  | nil =>
  rw [List.append_nil] at z4
  refine ⟨steps, ps, d6, s6, ⟨⟨(1 + r1).toNat, by omega, by omega, ?_⟩, ⟨r3.toNat, by omega, z4⟩, ⟨house, hm, fun p hp => (z5 p hp).1⟩, fun p hp => (z5 p hp).2⟩, ?_⟩
  · by_cases h0 : r2 = 0
    · exact .inr (if_pos h0)
    · exact .inl (if_neg h0)
  · have st1 : sAsg (mSlD (mLd (lC (mC (.str "ask")) (lC (mC (.str "as")) (lC (mC (.str "bid")) (lC (mC (.str "cut")) (lC (mC (.str "dig")) (lC (mC (.str "finishes")) (lN)))))))) (oN) (oS (m2 fAddD (mC (.int 1)) (mCall (d_law_take ns)  (lC (mV 0) (lC (mV 1) (lN))))))) (gtN 3) [some (.loc 0), some (.int b), some (.int pm), none, none, none, none, none, none, none, none] [fd d s]
        = .nx [some (.loc 0), some (.int b), some (.int pm), some (.dat (.list (eS row))), none, none, none, none, none, none, none] [fd d1 s1] := by
      have e : newL (cutU (S6.map U.str) none (some (1 + r1))) [fd d1 s1] = .ok (.dat (.list (eS row))) [fd d1 s1] := by
        rw [cut_hi _ _ (by omega), ← List.map_take]
        exact newL_str _ _
      have e0 : mLd (lC (mC (.str "ask")) (lC (mC (.str "as")) (lC (mC (.str "bid")) (lC (mC (.str "cut")) (lC (mC (.str "dig")) (lC (mC (.str "finishes")) (lN))))))) [some (.loc 0), some (.int b), some (.int pm), none, none, none, none, none, none, none, none] [fd d s] = .ok (.dat (.list (eS S6))) [fd d s] := rfl
      have e2 : fSlD (.dat (.list (eS S6))) none (some (1 + r1)) [fd d1 s1] = .ok (.dat (.list (eS row))) [fd d1 s1] := e
      rw [sAsg, mSlD, e0]
      simp [slotsOf, sSeq, sIf, sAsg, sRet, sRetN, sE, sPut, Vm.putIn, bV, bNot, bAnd, bOr, m2, m1, mV, mC, mBt, mCall, lC, lN, R.bind, R.bindS, fIxD, seqOf, fGt, fLt, fLe, fGe, fSub, fMod, fDiv, fPow, fI, asB, fInt, gtN, pureO, pureU, outM, outU, fMulE, fMulD, fAddD, sPass, fAbs, fMax2, fMin2, mIf, mL, newO, fLenD, P0.at, pdOf, oN, oS, q1, e2]
    have st2 : sAsg (mIf (bV (m2 fEq (mCall (d_law_take ns)  (lC (mV 0) (lC (mC (.int 3)) (lN)))) (mC (.int 0)))) (m1 fRev (mV 3)) (mV 3)) (gtN 4) [some (.loc 0), some (.int b), some (.int pm), some (.dat (.list (eS row))), none, none, none, none, none, none, none] [fd d1 s1]
        = .nx [some (.loc 0), some (.int b), some (.int pm), some (.dat (.list (eS row))), some (.dat (.list (eS steps))), none, none, none, none, none, none] [fd d2 s2] := by
      by_cases h0 : r2 = 0
      · have e : newL ((eS row).map ofPd).reverse [fd d2 s2] = .ok (.dat (.list (eS steps))) [fd d2 s2] := by
          rw [show steps = row.reverse from if_pos h0, of_str, ← List.map_reverse]
          exact newL_str _ _
        have e1 : fRev (.dat (.list (eS row))) [fd d2 s2] = .ok (.dat (.list (eS steps))) [fd d2 s2] := e
        simp [slotsOf, sSeq, sIf, sAsg, sRet, sRetN, sE, sPut, Vm.putIn, bV, bNot, bAnd, bOr, m2, m1, mV, mC, mBt, mCall, lC, lN, R.bind, R.bindS, fIxD, seqOf, fGt, fLt, fLe, fGe, fSub, fMod, fDiv, fPow, fI, asB, fInt, gtN, pureO, pureU, outM, outU, fMulE, fMulD, fAddD, sPass, fAbs, fMax2, fMin2, mIf, mL, newO, fLenD, P0.at, pdOf, q2, fEq_int, h0, e1]
      · have e : steps = row := if_neg h0
        have h1 : (r2 == 0) = false := by simpa [slotsOf, sSeq, sIf, sAsg, sRet, sRetN, sE, sPut, Vm.putIn, bV, bNot, bAnd, bOr, m2, m1, mV, mC, mBt, mCall, lC, lN, R.bind, R.bindS, fIxD, seqOf, fGt, fLt, fLe, fGe, fSub, fMod, fDiv, fPow, fI, asB, fInt, gtN, pureO, pureU, outM, outU, fMulE, fMulD, fAddD, sPass, fAbs, fMax2, fMin2, mIf, mL, newO, fLenD, P0.at, pdOf] using h0
        simp [slotsOf, sSeq, sIf, sAsg, sRet, sRetN, sE, sPut, Vm.putIn, bV, bNot, bAnd, bOr, m2, m1, mV, mC, mBt, mCall, lC, lN, R.bind, R.bindS, fIxD, seqOf, fGt, fLt, fLe, fGe, fSub, fMod, fDiv, fPow, fI, asB, fInt, gtN, pureO, pureU, outM, outU, fMulE, fMulD, fAddD, sPass, fAbs, fMax2, fMin2, mIf, mL, newO, fLenD, P0.at, pdOf, q2, fEq_int, h1, e]
    have st3 : sPar 7 8 (lC (mL (lN)) (lC (mSlD (mLd (lC (mC (.str "cid")) (lC (mC (.str "ann")) (lC (mC (.str "bob")) (lC (mC (.str "eve")) (lC (mC (.str "dot")) (lC (mC (.str "ask")) (lC (mC (.str "abcdefgh")) (lC (mC (.str "z")) (lN)))))))))) (oN) (oS (mCall (d_law_take ns)  (lC (mV 0) (lC (m2 fAddD (mV 2) (mC (.int 1))) (lN)))))) (lN))) [some (.loc 0), some (.int b), some (.int pm), some (.dat (.list (eS row))), some (.dat (.list (eS steps))), none, none, none, none, none, none] [fd d2 s2]
        = .nx [some (.loc 0), some (.int b), some (.int pm), some (.dat (.list (eS row))), some (.dat (.list (eS steps))), none, none, some (.loc 1), some (.dat (.list (eS folk))), none, none] [fd d3 s3, .lst []] := by
      have e : newL (cutU (F8.map U.str) none (some r3)) [fd d3 s3, .lst []] = .ok (.dat (.list (eS folk))) [fd d3 s3, .lst []] := by
        rw [cut_hi _ _ a3, ← List.map_take]
        exact newL_str _ _
      have e0 : ∀ S h, mLd (lC (mC (.str "cid")) (lC (mC (.str "ann")) (lC (mC (.str "bob")) (lC (mC (.str "eve")) (lC (mC (.str "dot")) (lC (mC (.str "ask")) (lC (mC (.str "abcdefgh")) (lC (mC (.str "z")) (lN))))))))) S h = .ok (.dat (.list (eS F8))) h := fun S h => rfl
      have e2 : fSlD (.dat (.list (eS F8))) none (some r3) [fd d3 s3, .lst []] = .ok (.dat (.list (eS folk))) [fd d3 s3, .lst []] := e
      have e3 : ∀ S h, mL lN S h = .ok (.loc h.length) (h ++ [.lst []]) := fun S h => rfl
      simp only [sPar, lC, e3, R.bind, R.bindS, mSlD, e0, List.length_cons, List.length_nil, List.cons_append, List.nil_append]
      simp [slotsOf, sSeq, sIf, sAsg, sRet, sRetN, sE, sPut, Vm.putIn, bV, bNot, bAnd, bOr, m2, m1, mV, mC, mBt, mCall, lC, lN, R.bind, R.bindS, fIxD, seqOf, fGt, fLt, fLe, fGe, fSub, fMod, fDiv, fPow, fI, asB, fInt, gtN, pureO, pureU, outM, outU, fMulE, fMulD, fAddD, sPass, fAbs, fMax2, fMin2, mIf, mL, newO, fLenD, P0.at, pdOf, oN, oS, q3, e2]
    have st4 : sAsg (mCall (d_law_pick ns)  (lC (mV 0) (lC (mLd (lC (mLd (lC (mC (.str "red")) (lN))) (lC (mLd (lC (mC (.str "red")) (lC (mC (.str "sea")) (lN)))) (lC (mLd (lC (mC (.str "sea")) (lC (mC (.str "red")) (lN)))) (lC (mLd (lC (mC (.str "ask")) (lC (mC (.str "b")) (lC (mC (.str "seaports")) (lN))))) (lN)))))) (lN)))) (gtN 5) [some (.loc 0), some (.int b), some (.int pm), some (.dat (.list (eS row))), some (.dat (.list (eS steps))), none, none, some (.loc 1), some (.dat (.list (eS folk))), none, none] [fd d3 s3, .lst []]
        = .nx sl [fd d4 s4, .lst []] := by
      have e0 : ∀ S h, mLd (lC (mLd (lC (mC (.str "red")) (lN))) (lC (mLd (lC (mC (.str "red")) (lC (mC (.str "sea")) (lN)))) (lC (mLd (lC (mC (.str "sea")) (lC (mC (.str "red")) (lN)))) (lC (mLd (lC (mC (.str "ask")) (lC (mC (.str "b")) (lC (mC (.str "seaports")) (lN))))) (lN))))) S h = .ok (.dat (.list (H4.map fun l => .list (eS l)))) h := fun S h => rfl
      simp only [sAsg, mCall, lC, e0, mV, R.bind, R.bindS, List.getElem?_cons_zero, lN, q4, gtN]
      rfl
    have st5 : sForF (wSeq (mV 8)) (gtN 6) (folkB ns) sl [fd d4 s4, .lst []] = .nx [some (.loc 0), some (.int b), some (.int pm), some (.dat (.list (eS row))), some (.dat (.list (eS steps))), some (.dat (.list (eS house))), x6, some (.loc 1), some (.dat (.list (eS folk))), x9, x10] [fd d6 s6, .lst (ps.map fun p => .dat (eP p))] := by
      have z : decide ((folk.map U.str).length < lim) = true := decide_eq_true (by rw [List.length_map]; unfold lim; omega)
      simp only [sForF, w1Of, mV, sl, R.bind, R.bindS, List.getElem?_cons_succ, List.getElem?_cons_zero, vSeq_list, of_str]
      rw [z, if_pos rfl]
      exact e5
    have e6 : pdsOf (ps.map fun p => .dat (eP p)) = some (ps.map eP) := by
      have := pds_of (ps.map eP)
      rw [List.map_map] at this
      exact this
    unfold p_law_drawn_staff pmf m_law_drawn_staff
    rw [show slotsOf 11 (.loc 0 :: [.int b, .int pm]) = [some (.loc 0), some (.int b), some (.int pm), none, none, none, none, none, none, none, none] from rfl]
    rw [sSeq, st1]
    simp only
    rw [sSeq, st2]
    simp only
    rw [sSeq, st3]
    simp only
    rw [sSeq, st4]
    simp only
    rw [sSeq]
    unfold folkB at st5
    rw [st5]
    simp only
    have e7 : mLd (lC (mV 4) (lC (mV 7) lN)) [some (.loc 0), some (.int b), some (.int pm), some (.dat (.list (eS row))), some (.dat (.list (eS steps))), some (.dat (.list (eS house))), x6, some (.dat (.list (ps.map eP))), some (.dat (.list (eS folk))), x9, x10] [fd d6 s6, .ded] = .ok (.dat (.list [.list (eS steps), .list (ps.map eP)])) [fd d6 s6, .ded] := rfl
    have e8 : sFrz 7 [some (.loc 0), some (.int b), some (.int pm), some (.dat (.list (eS row))), some (.dat (.list (eS steps))), some (.dat (.list (eS house))), x6, some (.loc 1), some (.dat (.list (eS folk))), x9, x10] [fd d6 s6, .lst (ps.map fun p => .dat (eP p))] = .nx [some (.loc 0), some (.int b), some (.int pm), some (.dat (.list (eS row))), some (.dat (.list (eS steps))), some (.dat (.list (eS house))), x6, some (.dat (.list (ps.map eP))), some (.dat (.list (eS folk))), x9, x10] [fd d6 s6, .ded] := by
      simp only [sFrz, List.getElem?_cons_succ, List.getElem?_cons_zero, e6, List.set]
    rw [sSeq, e8]
    simp only
    rw [sRet, e7]
    rfl
end Law

set_option Elab.async false
set_option linter.all false
set_option maxRecDepth 100000
set_option maxHeartbeats 4100000
namespace Law
open PySem PySem.Spec PyProof.Rows L2 Vm
/-! ### names -/
def NS : List Str := ["ask", "as", "bid", "cut", "dig", "finishes", "cid", "ann", "bob", "eve", "dot", "abcdefgh", "z", "red", "sea", "b", "seaports"]
theorem s6_ns : ∀ x ∈ S6, x ∈ NS := by decide +kernel
theorem f8_ns : ∀ x ∈ F8, x ∈ NS := by decide +kernel
theorem h4_ns : ∀ l ∈ H4, ∀ x ∈ l, x ∈ NS := by decide +kernel
abbrev Ok (x : Str) : Prop := PyData.strOk x = true
theorem ns_ok : ∀ x ∈ NS, Ok x := by decide +kernel
theorem is_name_at (ns : List Int) : ∀ x ∈ NS, p_p_is_name ns [.str x] = .ok (.bl true) := by
  unfold NS
  simp only [List.mem_cons, List.not_mem_nil, or_false, forall_eq_or_imp, forall_eq]
  repeat' constructor
theorem d_name_at (ns : List Int) {x : Str} (hx : x ∈ NS) (h : Mh) : d_p_is_name ns [.str x] h = .ok (.bl true) h := by
  show (p_p_is_name ns [.str x]).at h = _
  rw [is_name_at ns x hx]
  rfl
theorem enum_mem : ∀ {ds : List PyData} {j : Nat} {x : U}, x ∈ enumD j ds → ∃ i d, ds[i]? = some d ∧ x = .pr [.int ((j + i : Nat) : Int), d]
  | [], _, _, h => nomatch h
  | d :: ds, j, x, h => by
    rcases List.mem_cons.mp (show x ∈ .pr [.int (j : Nat), d] :: enumD (j + 1) ds from h) with rfl | h
    · exact ⟨0, d, rfl, rfl⟩
    · obtain ⟨i, d', e1, e2⟩ := enum_mem h
      exact ⟨i + 1, d', by simpa [slotsOf, sSeq, sIf, sAsg, sRet, sRetN, sE, sPut, Vm.putIn, bV, bNot, bAnd, bOr, m2, m1, mV, mC, mBt, mCall, lC, lN, R.bind, R.bindS, fIxD, seqOf, fGt, fLt, fLe, fGe, fSub, fMod, fDiv, fPow, fI, asB, fInt, gtN, pureO, pureU, outM, outU, fMulE, fMulD, fAddD, sPass, fAbs, fMax2, fMin2, mIf, mL, newO, fLenD, P0.at, pdOf] using e1, by rw [e2, show j + 1 + i = j + (i + 1) by omega]⟩
theorem enum_len : ∀ {ds : List PyData} {j : Nat}, (enumD j ds).length = ds.length
  | [], _ => rfl
  | d :: ds, j => by
    show (enumD (j + 1) ds).length + 1 = ds.length + 1
    rw [enum_len]
theorem unlike_at (ns : List Int) {steps a : List Str} (h1 : ∀ x ∈ a, x ∈ steps) (h2 : a.Nodup) (h3 : ∀ x ∈ steps, Ok x) (h4 : steps.length ≤ 1000) (h5 : a.length ≤ steps.length) : p_p_are_unlike_steps ns [.dat (.list (eS steps)), .dat (.tuple (eS a))] = .ok (.bl true) := by
  have ho : ∀ x ∈ a, Ok x := fun x hx => h3 x (h1 x hx)
  have c : mLcF (wEnum (lC (mV 1) (lN))) (gtD 2 (gtCons (gtN 2) (gtCons (gtN 3) (gtNil)))) (bYes) (mAndV (m2 fIn (mV 3) (mV 0)) (m2 fNotIn (mV 3) (mSlD (mV 1) (oN) (oS (mV 2))))) [2, 3] [some (.dat (.list (eS steps))), some (.dat (.tuple (eS a))), none, none] []
      = .ok (.dat (.list ((enumD 0 (eS a)).map fun _ => .bool true))) [] := by
    refine mLcF_yes rfl (by rw [enum_len, List.length_map]; unfold lim; omega) fun x hx => ?_
    obtain ⟨i, d, ei, rfl⟩ := enum_mem hx
    rw [List.getElem?_map] at ei
    cases ey : a[i]? with
    | none => rw [ey] at ei; cases ei
    | some y =>
      rw [ey] at ei
      cases ei
      have hy : y ∈ a := List.mem_of_getElem? ey
      refine ⟨[some (.dat (.list (eS steps))), some (.dat (.tuple (eS a))), some (.int ((0 + i : Nat) : Int)), some (.str y)], rfl, ?_⟩
      have i1 : fInB (.str y) (.dat (.list (eS steps))) [] = some true := by
        rw [show U.str y = ofPd (.str y) from rfl, emb_str.in_at (ho y hy) h3 (.inl (rd_dat _ _ _)), decide_eq_true (h1 y hy)]
      have cu : fSlD (.dat (.tuple (eS a))) none (some ((0 + i : Nat) : Int)) [] = .ok (.dat (.tuple (eS (a.take i)))) [] := by
        have hi : i < a.length := (List.getElem?_eq_some_iff.mp ey).1
        have e0 : HT.sIx ((eS a).map ofPd).length 0 none = 0 := rfl
        have e1 : HT.sIx ((eS a).map ofPd).length ((eS a).map ofPd).length (some ((0 + i : Nat) : Int)) = i := by
          rw [HT.sIx_nat, Nat.zero_add, List.length_map, List.length_map, Nat.min_eq_left (by omega)]
        show (if HT.sIx ((eS a).map ofPd).length 0 none = 0 ∧ HT.sIx ((eS a).map ofPd).length ((eS a).map ofPd).length (some ((0 + i : Nat) : Int)) = ((eS a).map ofPd).length then R.ok (.dat (.tuple (eS a))) [] else newT (cutU ((eS a).map ofPd) none (some ((0 + i : Nat) : Int))) []) = _
        rw [e1, if_neg (by rw [List.length_map, List.length_map]; omega), cut_hi _ _ (by omega), ← List.map_take, ← List.map_take, show ((0 + i : Nat) : Int).toNat = i by omega]
        exact newT_of _ _
      have i2 : fInB (.str y) (.dat (.tuple (eS (a.take i)))) [] = some false := by
        rw [show U.str y = ofPd (.str y) from rfl, emb_str.in_at (ho y hy) (fun x hx => ho x (List.mem_of_mem_take hx)) (.inr (rd_dat _ _ _)), decide_eq_false]
        intro hm
        obtain ⟨j, hj, ej⟩ := List.mem_take_iff_getElem.mp hm
        have hi : i < a.length := (List.getElem?_eq_some_iff.mp ey).1
        have e2 : a[i] = y := (List.getElem?_eq_some_iff.mp ey).2
        have hji : j < i := by omega
        exact absurd ((List.getElem_inj h2).mp (ej.trans e2.symm)) (by omega)
      simp only [Nat.zero_add] at cu ⊢
      simp [slotsOf, sSeq, sIf, sAsg, sRet, sRetN, sE, sPut, Vm.putIn, bV, bNot, bAnd, bOr, m2, m1, mV, mC, mBt, mCall, lC, lN, R.bind, R.bindS, fIxD, seqOf, fGt, fLt, fLe, fGe, fSub, fMod, fDiv, fPow, fI, asB, fInt, gtN, pureO, pureU, outM, outU, fMulE, fMulD, fAddD, sPass, fAbs, fMax2, fMin2, mIf, mL, newO, fLenD, P0.at, pdOf, mAndV, fIn, fNotIn, i1, i2, mSlD, oN, oS, cu, ofPd, -List.map_take]
  have hl : ¬ (steps.length < a.length) := by omega
  have e1 : (enumD 0 (eS a)).map (fun _ => PyData.bool true) = ((enumD 0 (eS a)).map fun _ => true).map PyData.bool := by rw [List.map_map]; rfl
  have e2 : fAllD [.dat (.list ((enumD 0 (eS a)).map fun _ => PyData.bool true))] [] = .ok (.bl true) [] := by
    rw [e1, fAll_bl]
    simp [slotsOf, sSeq, sIf, sAsg, sRet, sRetN, sE, sPut, Vm.putIn, bV, bNot, bAnd, bOr, m2, m1, mV, mC, mBt, mCall, lC, lN, R.bind, R.bindS, fIxD, seqOf, fGt, fLt, fLe, fGe, fSub, fMod, fDiv, fPow, fI, asB, fInt, gtN, pureO, pureU, outM, outU, fMulE, fMulD, fAddD, sPass, fAbs, fMax2, fMin2, mIf, mL, newO, fLenD, P0.at, pdOf]
  have e3 : m_p_are_unlike_steps ns (slotsOf 4 [.dat (.list (eS steps)), .dat (.tuple (eS a))]) [] = .rt (.bl true) [] := by
    unfold m_p_are_unlike_steps
    have c0 : ∀ s, s = slotsOf 4 [.dat (.list (eS steps)), .dat (.tuple (eS a))] → sIf (bOr (bNot (bV (m1 (fIsi "tuple") (mV 1)))) (bV (m2 fGt (mBt (fLenD ns) (lC (mV 1) (lN))) (mBt (fLenD ns) (lC (mV 0) (lN)))))) (sRet (mC (.bl false))) (sPass) s [] = .nx s [] := by
      rintro s rfl
      simp [slotsOf, sSeq, sIf, sAsg, sRet, sRetN, sE, sPut, Vm.putIn, bV, bNot, bAnd, bOr, m2, m1, mV, mC, mBt, mCall, lC, lN, R.bind, R.bindS, fIxD, seqOf, fGt, fLt, fLe, fGe, fSub, fMod, fDiv, fPow, fI, asB, fInt, gtN, pureO, pureU, outM, outU, fMulE, fMulD, fAddD, sPass, fAbs, fMax2, fMin2, mIf, mL, newO, fLenD, P0.at, pdOf, fIsi, tyU, kitB, hl]
    rw [sSeq, c0 _ rfl]
    simp only
    rw [sRet, mBt, lC, show slotsOf 4 [.dat (.list (eS steps)), .dat (.tuple (eS a))] = [some (.dat (.list (eS steps))), some (.dat (.tuple (eS a))), none, none] from rfl, c]
    simp only [R.bind, lN, e2, R.bindS]
  exact pfn_rt rfl e3 rfl
end Law

set_option Elab.async false
set_option linter.all false
set_option maxRecDepth 100000
set_option maxHeartbeats 4100000
namespace Law
open PySem PySem.Spec PyProof.Rows L2 Vm
/-! ### a good staff -/
theorem nodup_rev {l : List Str} (h : l.Nodup) : l.reverse.Nodup := List.pairwise_reverse.mpr (h.imp Ne.symm)
structure StOk (steps : List Str) (ps : List Pn) : Prop where
  s0 : 1 ≤ steps.length
  s1 : steps.length ≤ 6
  snd : steps.Nodup
  sns : ∀ x ∈ steps, x ∈ NS
  pl : ps.length ≤ 8
  pnd : (ps.map (·.1)).Nodup
  pns : ∀ p ∈ ps, p.1 ∈ NS ∧ p.2.1 ∈ NS ∧ (∀ x ∈ p.2.2, x ∈ steps) ∧ p.2.2.Nodup ∧ p.2.2.length ≤ steps.length
theorem drawn_ok {b pm : Int} {steps : List Str} {ps : List Pn} (d : Drawn b pm steps ps) (hb : b ≤ 6) (hp : pm ≤ 8) : StOk steps ps := by
  obtain ⟨k, k1, k2, ks⟩ := d.st
  obtain ⟨j, j1, js⟩ := d.fk
  obtain ⟨hs, hm, hh⟩ := d.hs
  have kl : k ≤ 6 := by omega
  have jl : j ≤ 8 := by omega
  have s6 : ∀ k, k ≤ 6 → (S6.take k).length = k ∧ (S6.take k).Nodup := by decide +kernel
  have f8 : ∀ k, k ≤ 8 → (F8.take k).length = k ∧ (F8.take k).Nodup := by decide +kernel
  obtain ⟨q1, q2⟩ := s6 k kl
  obtain ⟨q3, q4⟩ := f8 j jl
  have e1 : steps.length = k ∧ steps.Nodup ∧ ∀ x ∈ steps, x ∈ NS := by
    rcases ks with rfl | rfl
    · exact ⟨q1, q2, fun x hx => s6_ns x (List.mem_of_mem_take hx)⟩
    · exact ⟨by rw [List.length_reverse, q1], nodup_rev q2, fun x hx => s6_ns x (List.mem_of_mem_take (List.mem_reverse.mp hx))⟩
  refine ⟨by omega, by omega, e1.2.1, e1.2.2, ?_, by rw [js]; exact q4, fun p hp => ?_⟩
  · have := congrArg List.length js
    rw [List.length_map] at this
    omega
  · obtain ⟨l, sl, hl⟩ := d.ab p hp
    have hn : p.1 ∈ F8.take j := by
      rw [← js]
      exact List.mem_map.mpr ⟨p, hp, rfl⟩
    refine ⟨f8_ns _ (List.mem_of_mem_take hn), h4_ns hs hm _ (hh p hp), ?_, ?_, ?_⟩
    · rcases hl with e | e
      · rw [e]; exact fun x hx => sl.subset hx
      · rw [e]; exact fun x hx => sl.subset (List.mem_reverse.mp hx)
    · rcases hl with e | e
      · rw [e]; exact e1.2.1.sublist sl
      · rw [e]; exact nodup_rev (e1.2.1.sublist sl)
    · rcases hl with e | e
      · rw [e]; exact sl.length_le
      · rw [e, List.length_reverse]; exact sl.length_le
section
variable {steps : List Str} {ps : List Pn}
theorem StOk.oks (k : StOk steps ps) : ∀ x ∈ steps, Ok x := fun x hx => ns_ok x (k.sns x hx)
theorem person_at (ns : List Int) (k : StOk steps ps) {p : Pn} (hp : p ∈ ps) : p_p_is_person ns [.dat (.list (eS steps)), .dat (eP p)] = .ok (.bl true) := by
  obtain ⟨q1, q2, q3, q4, q5⟩ := k.pns p hp
  have hs := k.s1
  have u := runP_ok (unlike_at ns q3 q4 k.oks (by omega) q5) []
  have e : m_p_is_person ns (slotsOf 5 [.dat (.list (eS steps)), .dat (eP p)]) [] = .rt (.bl true) [] := by
    have c0 : fNe (.int 3) (.int 3) [] = .ok (.bl false) [] := by rfl
    have c1 : gtD 3 (gtCons (gtN 2) (gtCons (gtN 3) (gtCons (gtN 4) (gtNil)))) (.dat (eP p)) [some (.dat (.list (eS steps))), some (.dat (eP p)), none, none, none] [] = some [some (.dat (.list (eS steps))), some (.dat (eP p)), some (.str p.1), some (.str p.2.1), some (.dat (.tuple (eS p.2.2)))] := rfl
    have c2 : runP (p_p_are_unlike_steps ns) [.dat (.list (eS steps)), .dat (.tuple (eS p.2.2))] [] = .ok (.bl true) [] := u
    unfold m_p_is_person
    simp [slotsOf, sSeq, sIf, sAsg, sRet, sRetN, sE, sPut, Vm.putIn, bV, bNot, bAnd, bOr, m2, m1, mV, mC, mBt, mCall, lC, lN, R.bind, R.bindS, fIxD, seqOf, fGt, fLt, fLe, fGe, fSub, fMod, fDiv, fPow, fI, asB, fInt, gtN, pureO, pureU, outM, outU, fMulE, fMulD, fAddD, sPass, fAbs, fMax2, fMin2, mIf, mL, newO, fLenD, P0.at, pdOf, fIsi, tyU, kitB, c0, c1, mAndV, d_name_at ns q1, d_name_at ns q2, d_p_are_unlike_steps, c2]
  exact pfn_rt rfl e rfl
theorem check_steps_at (ns : List Int) (k : StOk steps ps) : p_check_steps ns [.dat (.list (eS steps))] = .ok .non := by
  have hs := k.s1
  have h0 := k.s0
  let I : List U → Sl → Mh → Prop := fun us s h => h = [] ∧ (∃ x1 x2, s = [some (.dat (.list (eS steps))), x1, x2]) ∧ ∀ x ∈ us, x ∈ enumD 0 (eS steps)
  obtain ⟨s', h', e5, i1, ⟨x1, x2, i2⟩, _⟩ := loopF_inv (t := gtD 2 (gtCons (gtN 1) (gtCons (gtN 2) (gtNil)))) (b := sIf (bOr (bNot (bV (mCall (d_p_is_name ns)  (lC (mV 2) (lN))))) (bV (m2 fIn (mV 2) (mSlD (mV 0) (oN) (oS (mV 1)))))) (sRaise1 3 "number" (mV 1)) (sPass)) (I := I)
    (us := enumD 0 (eS steps)) (s := [some (.dat (.list (eS steps))), none, none]) (h := []) (fun x us s h ⟨i1, ⟨x1, x2, i2⟩, i3⟩ => by
      subst i1 i2
      obtain ⟨i, d, ei, rfl⟩ := enum_mem (i3 x (by simp [slotsOf, sSeq, sIf, sAsg, sRet, sRetN, sE, sPut, Vm.putIn, bV, bNot, bAnd, bOr, m2, m1, mV, mC, mBt, mCall, lC, lN, R.bind, R.bindS, fIxD, seqOf, fGt, fLt, fLe, fGe, fSub, fMod, fDiv, fPow, fI, asB, fInt, gtN, pureO, pureU, outM, outU, fMulE, fMulD, fAddD, sPass, fAbs, fMax2, fMin2, mIf, mL, newO, fLenD, P0.at, pdOf]))
      rw [List.getElem?_map] at ei
      cases ey : steps[i]? with
      | none => rw [ey] at ei; cases ei
      | some y =>
        rw [ey] at ei
        cases ei
        have hy : y ∈ steps := List.mem_of_getElem? ey
        have hi : i < steps.length := (List.getElem?_eq_some_iff.mp ey).1
        refine ⟨[some (.dat (.list (eS steps))), some (.int ((0 + i : Nat) : Int)), some (.str y)], [some (.dat (.list (eS steps))), some (.int ((0 + i : Nat) : Int)), some (.str y)], [], rfl, .inl ?_, rfl, ⟨_, _, rfl⟩, fun z hz => i3 z (by simp [slotsOf, sSeq, sIf, sAsg, sRet, sRetN, sE, sPut, Vm.putIn, bV, bNot, bAnd, bOr, m2, m1, mV, mC, mBt, mCall, lC, lN, R.bind, R.bindS, fIxD, seqOf, fGt, fLt, fLe, fGe, fSub, fMod, fDiv, fPow, fI, asB, fInt, gtN, pureO, pureU, outM, outU, fMulE, fMulD, fAddD, sPass, fAbs, fMax2, fMin2, mIf, mL, newO, fLenD, P0.at, pdOf, hz])⟩
        have cu : fSlD (.dat (.list (eS steps))) none (some ((0 + i : Nat) : Int)) [] = .ok (.dat (.list (eS (steps.take i)))) [] := by
          show newL (cutU ((eS steps).map ofPd) none (some ((0 + i : Nat) : Int))) [] = _
          rw [cut_hi _ _ (by omega), ← List.map_take, ← List.map_take, show ((0 + i : Nat) : Int).toNat = i by omega]
          exact newL_of _ _
        have i2 : fInB (.str y) (.dat (.list (eS (steps.take i)))) [] = some false := by
          rw [show U.str y = ofPd (.str y) from rfl, emb_str.in_at (k.oks y hy) (fun x hx => k.oks x (List.mem_of_mem_take hx)) (.inl (rd_dat _ _ _)), decide_eq_false]
          intro hm
          obtain ⟨j, hj, ej⟩ := List.mem_take_iff_getElem.mp hm
          have e2 : steps[i] = y := (List.getElem?_eq_some_iff.mp ey).2
          have hji : j < i := by omega
          exact absurd ((List.getElem_inj k.snd).mp (ej.trans e2.symm)) (by omega)
        simp only [Nat.zero_add] at cu ⊢
        simp [slotsOf, sSeq, sIf, sAsg, sRet, sRetN, sE, sPut, Vm.putIn, bV, bNot, bAnd, bOr, m2, m1, mV, mC, mBt, mCall, lC, lN, R.bind, R.bindS, fIxD, seqOf, fGt, fLt, fLe, fGe, fSub, fMod, fDiv, fPow, fI, asB, fInt, gtN, pureO, pureU, outM, outU, fMulE, fMulD, fAddD, sPass, fAbs, fMax2, fMin2, mIf, mL, newO, fLenD, P0.at, pdOf, d_name_at ns (k.sns y hy), mSlD, oN, oS, cu, fIn, i2, -List.map_take]) ⟨rfl, ⟨none, none, rfl⟩, fun _ h => h⟩
  subst i1 i2
  have cu : fSlD (.dat (.list (eS steps))) none (some 6) [] = .ok (.dat (.list (eS steps))) [] := by
    show newL (cutU ((eS steps).map ofPd) none (some 6)) [] = _
    rw [cut_hi _ _ (by decide), List.take_of_length_le (by simp [slotsOf, sSeq, sIf, sAsg, sRet, sRetN, sE, sPut, Vm.putIn, bV, bNot, bAnd, bOr, m2, m1, mV, mC, mBt, mCall, lC, lN, R.bind, R.bindS, fIxD, seqOf, fGt, fLt, fLe, fGe, fSub, fMod, fDiv, fPow, fI, asB, fInt, gtN, pureO, pureU, outM, outU, fMulE, fMulD, fAddD, sPass, fAbs, fMax2, fMin2, mIf, mL, newO, fLenD, P0.at, pdOf]; omega)]
    exact newL_of _ _
  have z : decide ((enumD 0 (eS steps)).length < lim) = true := decide_eq_true (by rw [enum_len, List.length_map]; unfold lim; omega)
  have st2 : sForF (wEnum (lC (mSlD (mV 0) (oN) (oS (mC (.int 6)))) (lN))) (gtD 2 (gtCons (gtN 1) (gtCons (gtN 2) (gtNil)))) (sIf (bOr (bNot (bV (mCall (d_p_is_name ns)  (lC (mV 2) (lN))))) (bV (m2 fIn (mV 2) (mSlD (mV 0) (oN) (oS (mV 1)))))) (sRaise1 3 "number" (mV 1)) (sPass)) [some (.dat (.list (eS steps))), none, none] [] = .nx [some (.dat (.list (eS steps))), x1, x2] [] := by
    have e : wEnum (lC (mSlD (mV 0) (oN) (oS (mC (.int 6)))) (lN)) [some (.dat (.list (eS steps))), none, none] [] = .ok (enumD 0 (eS steps)) [] := by
      simp [slotsOf, sSeq, sIf, sAsg, sRet, sRetN, sE, sPut, Vm.putIn, bV, bNot, bAnd, bOr, m2, m1, mV, mC, mBt, mCall, lC, lN, R.bind, R.bindS, fIxD, seqOf, fGt, fLt, fLe, fGe, fSub, fMod, fDiv, fPow, fI, asB, fInt, gtN, pureO, pureU, outM, outU, fMulE, fMulD, fAddD, sPass, fAbs, fMax2, fMin2, mIf, mL, newO, fLenD, P0.at, pdOf, wOf, mSlD, oN, oS, cu, vEnum, datSeq]
    rw [sForF, e]
    simp only [R.bindS]
    rw [z, if_pos rfl]
    exact e5
  have e : m_check_steps ns (slotsOf 3 [.dat (.list (eS steps))]) [] = .nx [some (.dat (.list (eS steps))), x1, x2] [] := by
    unfold m_check_steps
    have c0 : sIf (bNot (bV (m1 (fIsi "list") (mV 0)))) (sRaise0 1) (sPass) (slotsOf 3 [.dat (.list (eS steps))]) [] = .nx [some (.dat (.list (eS steps))), none, none] [] := by
      simp [slotsOf, sSeq, sIf, sAsg, sRet, sRetN, sE, sPut, Vm.putIn, bV, bNot, bAnd, bOr, m2, m1, mV, mC, mBt, mCall, lC, lN, R.bind, R.bindS, fIxD, seqOf, fGt, fLt, fLe, fGe, fSub, fMod, fDiv, fPow, fI, asB, fInt, gtN, pureO, pureU, outM, outU, fMulE, fMulD, fAddD, sPass, fAbs, fMax2, fMin2, mIf, mL, newO, fLenD, P0.at, pdOf, fIsi, tyU, kitB]
    rw [sSeq, c0]
    simp only
    rw [sSeq, st2]
    simp only
    have a1 : (1 : Int) ≤ steps.length := by omega
    have a2 : (steps.length : Int) ≤ 6 := by omega
    simp [slotsOf, sSeq, sIf, sAsg, sRet, sRetN, sE, sPut, Vm.putIn, bV, bNot, bAnd, bOr, m2, m1, mV, mC, mBt, mCall, lC, lN, R.bind, R.bindS, fIxD, seqOf, fGt, fLt, fLe, fGe, fSub, fMod, fDiv, fPow, fI, asB, fInt, gtN, pureO, pureU, outM, outU, fMulE, fMulD, fAddD, sPass, fAbs, fMax2, fMin2, mIf, mL, newO, fLenD, P0.at, pdOf, mChain, a1, a2]
  exact pfn_nx rfl e
end
end Law

set_option Elab.async false
set_option linter.all false
set_option maxRecDepth 100000
set_option maxHeartbeats 4100000
namespace Law
open PySem PySem.Spec PyProof.Rows L2 Vm
section
variable {steps : List Str} {ps : List Pn}
def pplB (ns : List Int) : Ms := sSeq (sIf (bOr (bNot (bV (mCall (d_p_is_person ns)  (lC (mV 0) (lC (mV 4) (lN)))))) (bV (m2 fIn (m2 (fIxD ns) (mV 4) (mC (.int 0))) (mV 2)))) (sRaise1 4 "number" (mV 3)) (sPass))
    (sE (mMtL fAppend (mV 2) (lC (m2 (fIxD ns) (mV 4) (mC (.int 0))) (lN))))
abbrev nmU (l : List Pn) : List U := l.map fun p => U.str p.1
theorem nmU_eq (l : List Pn) : nmU l = (eS (l.map (·.1))).map ofPd := by
  rw [of_str, List.map_map]
  rfl
structure PplI (steps : List Str) (ps : List Pn) (us : List U) (s : Sl) (h : Mh) : Prop where
  ex : ∃ (done rest : List Pn) (x3 x4 : Option U), ps = done ++ rest ∧ us = enumD done.length (rest.map eP) ∧ h = [.lst (nmU done)] ∧ s = [some (.dat (.list (eS steps))), some (.dat (.list (ps.map eP))), some (.loc 0), x3, x4]
theorem ppl_step (ns : List Int) (k : StOk steps ps) (x : U) (us : List U) (s : Sl) (h : Mh) (i : PplI steps ps (x :: us) s h) :
    ∃ s1 s2 h2, gtD 2 (gtCons (gtN 3) (gtCons (gtN 4) (gtNil))) x s h = some s1 ∧ (pplB ns s1 h = .nx s2 h2 ∨ pplB ns s1 h = .ct s2 h2) ∧ PplI steps ps us s2 h2 := by
  obtain ⟨done, rest, x3, x4, e1, e2, rfl, rfl⟩ := i.ex
  cases rest with
  | nil => cases e2
  | cons p rest =>
    cases e2
    have hp : p ∈ ps := by rw [e1]; simp [slotsOf, sSeq, sIf, sAsg, sRet, sRetN, sE, sPut, Vm.putIn, bV, bNot, bAnd, bOr, m2, m1, mV, mC, mBt, mCall, lC, lN, R.bind, R.bindS, fIxD, seqOf, fGt, fLt, fLe, fGe, fSub, fMod, fDiv, fPow, fI, asB, fInt, gtN, pureO, pureU, outM, outU, fMulE, fMulD, fAddD, sPass, fAbs, fMax2, fMin2, mIf, mL, newO, fLenD, P0.at, pdOf]
    have hl : done.length ≤ 8 := by
      have := congrArg List.length e1
      simp [slotsOf, sSeq, sIf, sAsg, sRet, sRetN, sE, sPut, Vm.putIn, bV, bNot, bAnd, bOr, m2, m1, mV, mC, mBt, mCall, lC, lN, R.bind, R.bindS, fIxD, seqOf, fGt, fLt, fLe, fGe, fSub, fMod, fDiv, fPow, fI, asB, fInt, gtN, pureO, pureU, outM, outU, fMulE, fMulD, fAddD, sPass, fAbs, fMax2, fMin2, mIf, mL, newO, fLenD, P0.at, pdOf] at this
      have := k.pl
      omega
    refine ⟨[some (.dat (.list (eS steps))), some (.dat (.list (ps.map eP))), some (.loc 0), some (.int (done.length : Nat)), some (.dat (eP p))], [some (.dat (.list (eS steps))), some (.dat (.list (ps.map eP))), some (.loc 0), some (.int (done.length : Nat)), some (.dat (eP p))], [.lst (nmU (done ++ [p]))], rfl, .inl ?_, ⟨done ++ [p], rest, _, _, by simpa [slotsOf, sSeq, sIf, sAsg, sRet, sRetN, sE, sPut, Vm.putIn, bV, bNot, bAnd, bOr, m2, m1, mV, mC, mBt, mCall, lC, lN, R.bind, R.bindS, fIxD, seqOf, fGt, fLt, fLe, fGe, fSub, fMod, fDiv, fPow, fI, asB, fInt, gtN, pureO, pureU, outM, outU, fMulE, fMulD, fAddD, sPass, fAbs, fMax2, fMin2, mIf, mL, newO, fLenD, P0.at, pdOf] using e1, ?_, rfl, rfl⟩⟩
    · have c1 : d_p_is_person ns [.dat (.list (eS steps)), .dat (eP p)] [.lst (nmU done)] = .ok (.bl true) [.lst (nmU done)] := runP_ok (person_at ns k hp) _
      have c2 : fIxD ns (.dat (eP p)) (.int 0) [.lst (nmU done)] = .ok (.str p.1) [.lst (nmU done)] := rfl
      have nd : p.1 ∉ done.map (·.1) := by
        have := k.pnd
        rw [e1, List.map_append, List.map_cons, List.nodup_append] at this
        exact fun hm => this.2.2 _ hm _ (by simp [slotsOf, sSeq, sIf, sAsg, sRet, sRetN, sE, sPut, Vm.putIn, bV, bNot, bAnd, bOr, m2, m1, mV, mC, mBt, mCall, lC, lN, R.bind, R.bindS, fIxD, seqOf, fGt, fLt, fLe, fGe, fSub, fMod, fDiv, fPow, fI, asB, fInt, gtN, pureO, pureU, outM, outU, fMulE, fMulD, fAddD, sPass, fAbs, fMax2, fMin2, mIf, mL, newO, fLenD, P0.at, pdOf]) rfl
      have c3 : fInB (.str p.1) (.loc 0) [.lst (nmU done)] = some false := by
        rw [show U.str p.1 = ofPd (.str p.1) from rfl, emb_str.in_at (l := done.map (·.1)) (ns_ok _ (k.pns p hp).1) (fun x hx => by
          obtain ⟨q, hq, rfl⟩ := List.mem_map.mp hx
          exact ns_ok _ (k.pns q (by rw [e1]; simp [slotsOf, sSeq, sIf, sAsg, sRet, sRetN, sE, sPut, Vm.putIn, bV, bNot, bAnd, bOr, m2, m1, mV, mC, mBt, mCall, lC, lN, R.bind, R.bindS, fIxD, seqOf, fGt, fLt, fLe, fGe, fSub, fMod, fDiv, fPow, fI, asB, fInt, gtN, pureO, pureU, outM, outU, fMulE, fMulD, fAddD, sPass, fAbs, fMax2, fMin2, mIf, mL, newO, fLenD, P0.at, pdOf, hq])).1) (.inl (rd_loc (by rw [nmU_eq]; rfl))), decide_eq_false nd]
      have c4 : okLen (nmU done).length = true := by simp [slotsOf, sSeq, sIf, sAsg, sRet, sRetN, sE, sPut, Vm.putIn, bV, bNot, bAnd, bOr, m2, m1, mV, mC, mBt, mCall, lC, lN, R.bind, R.bindS, fIxD, seqOf, fGt, fLt, fLe, fGe, fSub, fMod, fDiv, fPow, fI, asB, fInt, gtN, pureO, pureU, outM, outU, fMulE, fMulD, fAddD, sPass, fAbs, fMax2, fMin2, mIf, mL, newO, fLenD, P0.at, pdOf, okLen]; omega
      have c5 : fAppend (.loc 0) [.str p.1] [.lst (nmU done)] = .ok .non [.lst (nmU (done ++ [p]))] := by
        show (if okLen (nmU done).length then R.ok U.non [O.lst (nmU done ++ [.str p.1])] else .stuck) = _
        rw [c4, if_pos rfl, nmU, nmU, List.map_append]
        rfl
      unfold pplB
      simp only [sSeq, sIf, bOr, bNot, bV, mCall, lC, mV, lN, R.bind, R.bindS, List.getElem?_cons_zero, List.getElem?_cons_succ, c1, asB, Bool.not_true, m2, mC, c2, fIn, c3, sPass, sE, mMtL, isLst, if_true, c5]
    · rw [List.length_append]
      rfl
theorem check_people_at (ns : List Int) (k : StOk steps ps) : p_check_people ns [.dat (.list (eS steps)), .dat (.list (ps.map eP))] = .ok .non := by
  have hl := k.pl
  obtain ⟨s', h', e5, i5⟩ := loopF_inv (I := PplI steps ps) (fun x us s h i => ppl_step ns k x us s h i) (us := enumD 0 (ps.map eP)) (s := [some (.dat (.list (eS steps))), some (.dat (.list (ps.map eP))), some (.loc 0), none, none]) (h := [.lst []]) ⟨[], ps, none, none, rfl, rfl, rfl, rfl⟩
  obtain ⟨done, rest, x3, x4, e1, e2, rfl, rfl⟩ := i5.ex
  have cu : fSlD (.dat (.list (ps.map eP))) none (some 8) [.lst []] = .ok (.dat (.list (ps.map eP))) [.lst []] := by
    show newL (cutU ((ps.map eP).map ofPd) none (some 8)) [.lst []] = _
    rw [cut_hi _ _ (by decide), List.take_of_length_le (by simp [slotsOf, sSeq, sIf, sAsg, sRet, sRetN, sE, sPut, Vm.putIn, bV, bNot, bAnd, bOr, m2, m1, mV, mC, mBt, mCall, lC, lN, R.bind, R.bindS, fIxD, seqOf, fGt, fLt, fLe, fGe, fSub, fMod, fDiv, fPow, fI, asB, fInt, gtN, pureO, pureU, outM, outU, fMulE, fMulD, fAddD, sPass, fAbs, fMax2, fMin2, mIf, mL, newO, fLenD, P0.at, pdOf]; omega)]
    exact newL_of _ _
  have z : decide ((enumD 0 (ps.map eP)).length < lim) = true := decide_eq_true (by rw [enum_len, List.length_map]; unfold lim; omega)
  have st : sForF (wEnum (lC (mSlD (mV 1) (oN) (oS (mC (.int 8)))) (lN))) (gtD 2 (gtCons (gtN 3) (gtCons (gtN 4) (gtNil)))) (pplB ns) [some (.dat (.list (eS steps))), some (.dat (.list (ps.map eP))), some (.loc 0), none, none] [.lst []] = .nx [some (.dat (.list (eS steps))), some (.dat (.list (ps.map eP))), some (.loc 0), x3, x4] [.lst (nmU done)] := by
    have e : wEnum (lC (mSlD (mV 1) (oN) (oS (mC (.int 8)))) (lN)) [some (.dat (.list (eS steps))), some (.dat (.list (ps.map eP))), some (.loc 0), none, none] [.lst []] = .ok (enumD 0 (ps.map eP)) [.lst []] := by
      simp [slotsOf, sSeq, sIf, sAsg, sRet, sRetN, sE, sPut, Vm.putIn, bV, bNot, bAnd, bOr, m2, m1, mV, mC, mBt, mCall, lC, lN, R.bind, R.bindS, fIxD, seqOf, fGt, fLt, fLe, fGe, fSub, fMod, fDiv, fPow, fI, asB, fInt, gtN, pureO, pureU, outM, outU, fMulE, fMulD, fAddD, sPass, fAbs, fMax2, fMin2, mIf, mL, newO, fLenD, P0.at, pdOf, wOf, mSlD, oN, oS, cu, vEnum, datSeq]
    rw [sForF, e]
    simp only [R.bindS]
    rw [z, if_pos rfl]
    exact e5
  have e : m_check_people ns (slotsOf 5 [.dat (.list (eS steps)), .dat (.list (ps.map eP))]) [] = .nx [some (.dat (.list (eS steps))), some (.dat (.list (ps.map eP))), some (.loc 0), x3, x4] [.lst (nmU done)] := by
    unfold m_check_people
    have c0 : sIf (bNot (bV (m1 (fIsi "list") (mV 1)))) (sRaise0 1) (sPass) (slotsOf 5 [.dat (.list (eS steps)), .dat (.list (ps.map eP))]) [] = .nx [some (.dat (.list (eS steps))), some (.dat (.list (ps.map eP))), none, none, none] [] := by
      simp [slotsOf, sSeq, sIf, sAsg, sRet, sRetN, sE, sPut, Vm.putIn, bV, bNot, bAnd, bOr, m2, m1, mV, mC, mBt, mCall, lC, lN, R.bind, R.bindS, fIxD, seqOf, fGt, fLt, fLe, fGe, fSub, fMod, fDiv, fPow, fI, asB, fInt, gtN, pureO, pureU, outM, outU, fMulE, fMulD, fAddD, sPass, fAbs, fMax2, fMin2, mIf, mL, newO, fLenD, P0.at, pdOf, fIsi, tyU, kitB]
    have c1 : sAsg (mL lN) (gtN 2) [some (.dat (.list (eS steps))), some (.dat (.list (ps.map eP))), none, none, none] [] = .nx [some (.dat (.list (eS steps))), some (.dat (.list (ps.map eP))), some (.loc 0), none, none] [.lst []] := rfl
    rw [sSeq, c0]
    simp only
    rw [sSeq, c1]
    simp only
    rw [sSeq]
    unfold pplB at st
    rw [st]
    simp only
    have a1 : ¬ ((8 : Int) < ps.length) := by omega
    simp [slotsOf, sSeq, sIf, sAsg, sRet, sRetN, sE, sPut, Vm.putIn, bV, bNot, bAnd, bOr, m2, m1, mV, mC, mBt, mCall, lC, lN, R.bind, R.bindS, fIxD, seqOf, fGt, fLt, fLe, fGe, fSub, fMod, fDiv, fPow, fI, asB, fInt, gtN, pureO, pureU, outM, outU, fMulE, fMulD, fAddD, sPass, fAbs, fMax2, fMin2, mIf, mL, newO, fLenD, P0.at, pdOf, a1]
  exact pfn_nx rfl e
/-- each person's list in the order of the steps -/
abbrev ordP (steps : List Str) (p : Pn) : Pn := (p.1, p.2.1, steps.filter fun x => decide (x ∈ p.2.2))
theorem in_order_at (ns : List Int) (k : StOk steps ps) {p : Pn} (hp : p ∈ ps) : p_in_order ns [.dat (.list (eS steps)), .dat (eP p)] = .ok (.dat (eP (ordP steps p))) := by
  have hs := k.s1
  obtain ⟨q1, q2, q3, q4, q5⟩ := k.pns p hp
  have c : mLcF (wSeq (mV 0)) (gtN 5) (bV (m2 fIn (mV 5) (mV 4))) (mV 5) [5] [some (.dat (.list (eS steps))), some (.dat (eP p)), some (.str p.1), some (.str p.2.1), some (.dat (.tuple (eS p.2.2))), none] [] = .ok (.dat (.list (eS (steps.filter fun x => decide (x ∈ p.2.2))))) [] := by
    have := mLcF_if (m := wSeq (mV 0)) (t := gtN 5) (q := bV (m2 fIn (mV 5) (mV 4))) (e := mV 5) (vs := [5]) (s := [some (.dat (.list (eS steps))), some (.dat (eP p)), some (.str p.1), some (.str p.2.1), some (.dat (.tuple (eS p.2.2))), none]) (h := []) (us := steps.map U.str)
      (qb := fun u => match u with | .str x => decide (x ∈ p.2.2) | _ => false) (fe := fun u => match u with | .str x => .str x | _ => .none) (by
        show R.ok ((eS steps).map ofPd) [] = _
        rw [of_str]) (by rw [List.length_map]; unfold lim; omega) (fun x hx => by
        obtain ⟨y, hy, rfl⟩
                            := List.mem_map.mp hx
        refine ⟨[some (.dat (.list (eS steps))), some (.dat (eP p)), some (.str p.1), some (.str p.2.1), some (.dat (.tuple (eS p.2.2))), some (.str y)], rfl, ?_, fun _ => rfl⟩
        have i2 : fInB (.str y) (.dat (.tuple (eS p.2.2))) [] = some (decide (y ∈ p.2.2)) := by
          rw [show U.str y = ofPd (.str y) from rfl, emb_str.in_at (k.oks y hy) (fun x hx => k.oks x (q3 x hx)) (.inr (rd_dat _ _ _))]
        simp [slotsOf, sSeq, sIf, sAsg, sRet, sRetN, sE, sPut, Vm.putIn, bV, bNot, bAnd, bOr, m2, m1, mV, mC, mBt, mCall, lC, lN, R.bind, R.bindS, fIxD, seqOf, fGt, fLt, fLe, fGe, fSub, fMod, fDiv, fPow, fI, asB, fInt, gtN, pureO, pureU, outM, outU, fMulE, fMulD, fAddD, sPass, fAbs, fMax2, fMin2, mIf, mL, newO, fLenD, P0.at, pdOf, fIn, i2])
    rw [this]
    congr 3
    rw [List.filter_map, List.map_map]
    rfl
  have e : m_in_order ns (slotsOf 6 [.dat (.list (eS steps)), .dat (eP p)]) [] = .rt (.dat (eP (ordP steps p))) [] := by
    unfold m_in_order
    have c1 : sAsg (mV 1) (gtD 3 (gtCons (gtN 2) (gtCons (gtN 3) (gtCons (gtN 4) (gtNil))))) (slotsOf 6 [.dat (.list (eS steps)), .dat (eP p)]) [] = .nx [some (.dat (.list (eS steps))), some (.dat (eP p)), some (.str p.1), some (.str p.2.1), some (.dat (.tuple (eS p.2.2))), none] [] := rfl
    rw [sSeq, c1]
    simp only
    have c2 : fTupD [.dat (.list (eS (steps.filter fun x => decide (x ∈ p.2.2))))] [] = .ok (.dat (.tuple (eS (steps.filter fun x => decide (x ∈ p.2.2))))) [] := by
      show newT ((eS _).map ofPd) [] = _
      exact newT_of _ _
    simp only [sRet, mTd, lC, mV, List.getElem?_cons_zero, List.getElem?_cons_succ, R.bind, mBt, c, lN, c2, R.bindS]
    rfl
  exact pfn_rt rfl e rfl
end
end Law

set_option Elab.async false
set_option linter.all false
set_option maxRecDepth 100000
set_option maxHeartbeats 4100000
namespace Law
open PySem PySem.Spec PyProof.Rows L2 Vm
section
variable {steps : List Str} {ps : List Pn}
abbrev ordL (steps : List Str) (ps : List Pn) : List Pn := ps.map (ordP steps)
abbrev staffF (steps : List Str) (ps : List Pn) : List (Str × U) := [("_steps", .dat (.list (eS steps))), ("_people", .dat (.list ((ordL steps ps).map eP)))]
abbrev staffU (steps : List Str) (ps : List Pn) : U := .obj 7 (staffF steps ps)
theorem mem_eP {x : U} (h : x ∈ (ps.map eP).map ofPd) : ∃ p ∈ ps, x = .dat (eP p) := by
  obtain ⟨d, hd, rfl⟩ := List.mem_map.mp h
  obtain ⟨p, hp, rfl⟩ := List.mem_map.mp hd
  exact ⟨p, hp, rfl⟩
theorem init_at (ns : List Int) (k : StOk steps ps) : p_p_Staff___init__ ns (.ins 7 []) [.dat (.list (eS steps)), .dat (.list (ps.map eP))] = .ok .non (.ins 7 (staffF steps ps)) := by
  have hl := k.pl
  have a1 : ∀ h, d_check_steps ns [.dat (.list (eS steps))] h = .ok .non h := runP_ok (check_steps_at ns k)
  have a2 : ∀ h, d_check_people ns [.dat (.list (eS steps)), .dat (.list (ps.map eP))] h = .ok .non h := runP_ok (check_people_at ns k)
  have a3 : ∀ h, fLstD [.dat (.list (eS steps))] h = .ok (.dat (.list (eS steps))) h := fun h => by
    show newL ((eS steps).map ofPd) h = _
    exact newL_of _ _
  let h1 : Mh := [.ins 7 [("_steps", .dat (.list (eS steps)))]]
  have c : mLcF (wSeq (mV 2)) (gtN 3) (bYes) (mCall (d_in_order ns)  (lC (mV 1) (lC (mV 3) (lN)))) [3] [some (.loc 0), some (.dat (.list (eS steps))), some (.dat (.list (ps.map eP))), none] h1 = .ok (.dat (.list ((ordL steps ps).map eP))) h1 := by
    have := mLcF_yes (m := wSeq (mV 2)) (t := gtN 3) (e := mCall (d_in_order ns)  (lC (mV 1) (lC (mV 3) (lN)))) (vs := [3]) (s := [some (.loc 0), some (.dat (.list (eS steps))), some (.dat (.list (ps.map eP))), none]) (h := h1) (us := (ps.map eP).map ofPd)
      (fe := fun u => match u with | .dat (.tuple [.str a, .str b, .tuple l]) => .tuple [.str a, .str b, .tuple (eS (steps.filter fun x => l.any fun z => PyData.eqv z (.str x)))] | _ => .none) rfl (by rw [List.length_map, List.length_map]; unfold lim; omega) (fun x hx => by
        obtain ⟨p, hp, rfl⟩ := mem_eP hx
        refine ⟨[some (.loc 0), some (.dat (.list (eS steps))), some (.dat (.list (ps.map eP))), some (.dat (eP p))], rfl, ?_⟩
        have q : d_in_order ns [.dat (.list (eS steps)), .dat (eP p)] h1 = .ok (.dat (eP (ordP steps p))) h1 := runP_ok (in_order_at ns k hp) h1
        simp only [mCall, lC, mV, lN, R.bind, List.getElem?_cons_zero, List.getElem?_cons_succ, q]
        simp only [eP, ordP, ofPd, emb_str.any])
    rw [this]
    congr 3
    rw [List.map_map, List.map_map, List.map_map]
    refine List.map_congr_left
                               fun p _ => ?_
    simp only [Function.comp, eP, ordP, ofPd, emb_str.any]
  have e : m_p_Staff___init__ ns [some (.loc 0), some (.dat (.list (eS steps))), some (.dat (.list (ps.map eP))), none] [.ins 7 []] = .nx [some (.loc 0), some (.dat (.list (eS steps))), some (.dat (.list (ps.map eP))), none] [.ins 7 (staffF steps ps)] := by
    unfold m_p_Staff___init__
    simp only [sSeq, sE, mCall, lC, mV, lN, R.bind, R.bindS, List.getElem?_cons_zero, List.getElem?_cons_succ, a1, a2, sFldM, mBt, a3, insOf, if_true, List.length_nil, putFU, List.set]
    rw [if_pos (by decide)]
    simp only
    have c' := c
    simp only [h1] at c'
    rw [c']
    rfl
  show toM (m_p_Staff___init__ ns [some (.loc 0), some (.dat (.list (eS steps))), some (.dat (.list (ps.map eP))), none] [.ins 7 []]) = _
  rw [e]
  rfl
end
end Law

set_option Elab.async false
set_option linter.all false
set_option maxRecDepth 100000
set_option maxHeartbeats 4100000
namespace Law
open PySem PySem.Spec PyProof.Rows L2 Vm
section
variable {steps : List Str} {ps : List Pn}
abbrev tg34 : Gt := gtD 2 (gtCons (gtN 3) (gtCons (gtN 4) (gtNil)))
theorem nm_at {done : List Pn} {n : Str} (hn : Ok n) (hd : ∀ q ∈ done, Ok q.1) : fInB (.str n) (.loc 0) [.lst (nmU done)] = some (decide (n ∈ done.map (·.1))) := by
  rw [show U.str n = ofPd (.str n) from rfl, emb_str.in_at (l := done.map (·.1)) hn (fun x hx => by
    obtain ⟨q, hq, rfl⟩ := List.mem_map.mp hx
    exact hd q hq) (.inl (rd_loc (by rw [nmU_eq]; rfl)))]
theorem ppl_turn (ns : List Int) {p : Pn} {done : List Pn} (hp : p_p_is_person ns [.dat (.list (eS steps)), .dat (eP p)] = .ok (.bl true)) (nd : p.1 ∉ done.map (·.1)) (okp : Ok p.1) (okd : ∀ q ∈ done, Ok q.1) (hl : done.length ≤ 8) (L i : Option U) :
    pplB ns [some (.dat (.list (eS steps))), L, some (.loc 0), i, some (.dat (eP p))] [.lst (nmU done)] = .nx [some (.dat (.list (eS steps))), L, some (.loc 0), i, some (.dat (eP p))] [.lst (nmU (done ++ [p]))] := by
  have c1 : d_p_is_person ns [.dat (.list (eS steps)), .dat (eP p)] [.lst (nmU done)] = .ok (.bl true) [.lst (nmU done)] := runP_ok hp _
  have c2 : fIxD ns (.dat (eP p)) (.int 0) [.lst (nmU done)] = .ok (.str p.1) [.lst (nmU done)] := rfl
  have c3 : fInB (.str p.1) (.loc 0) [.lst (nmU done)] = some false := by rw [nm_at okp okd, decide_eq_false nd]
  have c4 : okLen (nmU done).length = true := by simp [slotsOf, sSeq, sIf, sAsg, sRet, sRetN, sE, sPut, Vm.putIn, bV, bNot, bAnd, bOr, m2, m1, mV, mC, mBt, mCall, lC, lN, R.bind, R.bindS, fIxD, seqOf, fGt, fLt, fLe, fGe, fSub, fMod, fDiv, fPow, fI, asB, fInt, gtN, pureO, pureU, outM, outU, fMulE, fMulD, fAddD, sPass, fAbs, fMax2, fMin2, mIf, mL, newO, fLenD, P0.at, pdOf, okLen]; omega
  have c5 : fAppend (.loc 0) [.str p.1] [.lst (nmU done)] = .ok .non [.lst (nmU (done ++ [p]))] := by
    show (if okLen (nmU done).length then R.ok U.non [O.lst (nmU done ++ [.str p.1])] else .stuck) = _
    rw [c4, if_pos rfl, nmU, nmU, List.map_append]
    rfl
  unfold pplB
  simp only [sSeq, sIf, bOr, bNot, bV, mCall, lC, mV, lN, R.bind, R.bindS, List.getElem?_cons_zero, List.getElem?_cons_succ, c1, asB, Bool.not_true, m2, mC, c2, fIn, c3, sPass, sE, mMtL, isLst, if_true, c5]
theorem ppl_no (ns : List Int) {bad : PyData} (hp : p_p_is_person ns [.dat (.list (eS steps)), ofPd bad] = .ok (.bl false)) (L x2 : Option U) (i : U) (h : Mh) :
    pplB ns [some (.dat (.list (eS steps))), L, x2, some i, some (ofPd bad)] h = .ex 4 [("number", i)] [some (.dat (.list (eS steps))), L, x2, some i, some (ofPd bad)] h := by
  have c1 : d_p_is_person ns [.dat (.list (eS steps)), ofPd bad] h = .ok (.bl false) h := runP_ok hp _
  unfold pplB
  simp only [sSeq, sIf, bOr, bNot, bV, mCall, lC, mV, lN, R.bind, R.bindS, List.getElem?_cons_zero, List.getElem?_cons_succ, c1, asB, Bool.not_false, sRaise1]
theorem ppl_dup (ns : List Int) {p : Pn} {done : List Pn} (hp : p_p_is_person ns [.dat (.list (eS steps)), .dat (eP p)] = .ok (.bl true)) (nd : p.1 ∈ done.map (·.1)) (okp : Ok p.1) (okd : ∀ q ∈ done, Ok q.1) (L : Option U) (i : U) :
    pplB ns [some (.dat (.list (eS steps))), L, some (.loc 0), some i, some (.dat (eP p))] [.lst (nmU done)] = .ex 4 [("number", i)] [some (.dat (.list (eS steps))), L, some (.loc 0), some i, some (.dat (eP p))] [.lst (nmU done)] := by
  have c1 : d_p_is_person ns [.dat (.list (eS steps)), .dat (eP p)] [.lst (nmU done)] = .ok (.bl true) [.lst (nmU done)] := runP_ok hp _
  have c2 : fIxD ns (.dat (eP p)) (.int 0) [.lst (nmU done)] = .ok (.str p.1) [.lst (nmU done)] := rfl
  have c3 : fInB (.str p.1) (.loc 0) [.lst (nmU done)] = some true := by rw [nm_at okp okd, decide_eq_true nd]
  unfold pplB
  simp only [sSeq, sIf, bOr, bNot, bV, mCall, lC, mV, lN, R.bind, R.bindS, List.getElem?_cons_zero, List.getElem?_cons_succ, c1, asB, Bool.not_true, m2, mC, c2, fIn, c3, sRaise1]
theorem ppl_pre (ns : List Int) (L : Option U) (tl : List PyData) : ∀ (rest done : List Pn) (x3 x4 : Option U), ((done ++ rest).map (·.1)).Nodup → (∀ p ∈ done ++ rest, Ok p.1) → (∀ p ∈ rest, p_p_is_person ns [.dat (.list (eS steps)), .dat (eP p)] = .ok (.bl true)) → (done ++ rest).length ≤ 8 →
    ∃ y3 y4, loopF tg34 (pplB ns) (enumD done.length (rest.map eP ++ tl)) [some (.dat (.list (eS steps))), L, some (.loc 0), x3, x4] [.lst (nmU done)] = loopF tg34 (pplB ns) (enumD (done ++ rest).length tl) [some (.dat (.list (eS steps))), L, some (.loc 0), y3, y4] [.lst (nmU (done ++ rest))]
  | [], done, x3, x4, _, _, _, _ => ⟨x3, x4, by rw [List.append_nil]; rfl⟩
  | p :: rest, done, x3, x4, nd, ok, hp, hl => by
    have e1 : done ++ p :: rest = (done ++ [p]) ++ rest := by simp
    have nd1 : p.1 ∉ done.map (·.1) := by
      rw [List.map_append, List.map_cons, List.nodup_append] at nd
      exact fun hm => nd.2.2 _ hm _ (.head _) rfl
    have l1 : done.length ≤ 8 := by rw [List.length_append] at hl; omega
    have t := ppl_turn ns (hp p (.head _)) nd1 (ok p (by simp)) (fun q hq => ok q (List.mem_append_left _ hq)) l1 L (some (.int (done.length : Nat)))
    obtain ⟨y3, y4, ih⟩ := ppl_pre ns L tl rest (done ++ [p]) (some (.int (done.length : Nat))) (some (.dat (eP p))) (by rw [← e1]; exact nd) (by rw [← e1]; exact ok) (fun q hq => hp q (List.mem_cons_of_mem _ hq)) (by rw [← e1]; exact hl)
    refine ⟨y3, y4, ?_⟩
    rw [e1, ← ih]
    rw [show enumD done.length ((p :: rest).map eP ++ tl) = .pr [.int (done.length : Nat), eP p] :: enumD (done.length + 1) (rest.map eP ++ tl) from rfl, loopF]
    rw [show tg34 (.pr [.int (done.length : Nat), eP p]) [some (.dat (.list (eS steps))), L, some (.loc 0), x3, x4] [.lst (nmU done)] = some [some (.dat (.list (eS steps))), L, some (.loc 0), some (.int (done.length : Nat)), some (.dat (eP p))] from rfl]
    simp only [t]
    rw [List.length_append]
    rfl
/-- why a value is refused as the next person -/
def Refd (ns : List Int) (steps : List Str) (qs : List Pn) (bad : PyData) : Prop :=
  p_p_is_person ns [.dat (.list (eS steps)), ofPd bad] = .ok (.bl false) ∨ ∃ p : Pn, bad = eP p ∧ p_p_is_person ns [.dat (.list (eS steps)), .dat (eP p)] = .ok (.bl true) ∧ p.1 ∈ qs.map (·.1) ∧ Ok p.1
theorem check_bad (ns : List Int) {qs : List Pn} (nd : (qs.map (·.1)).Nodup) (ok : ∀ p ∈ qs, Ok p.1) (hp : ∀ p ∈ qs, p_p_is_person ns [.dat (.list (eS steps)), .dat (eP p)] = .ok (.bl true)) (hl : qs.length ≤ 7) {bad : PyData} (tl : List PyData) (hb : Refd ns steps qs bad) :
    p_check_people ns [.dat (.list (eS steps)), .dat (.list (qs.map eP ++ bad :: tl))] = .ex 4 [("number", .int (qs.length : Nat))] := by
  let W := qs.map eP ++ bad :: tl
  have tk : W.take 8 = qs.map eP ++ bad :: tl.take (7 - qs.length) := by
    show (qs.map eP ++ bad :: tl).take 8 = _
    rw [List.take_append, List.length_map, List.take_of_length_le (by rw [List.length_map]; omega), show 8 - qs.length = (7 - qs.length) + 1 by omega]
    rfl
  have cu : fSlD (.dat (.list W)) none (some 8) [.lst []] = .ok (.dat (.list (qs.map eP ++ bad :: tl.take (7 - qs.length)))) [.lst []] := by
    show newL (cutU (W.map ofPd) none (some 8)) [.lst []] = _
    rw [cut_hi _ _ (by decide), ← List.map_take, show (8 : Int).toNat = 8 from rfl, tk]
    exact newL_of _ _
  have zl : (enumD 0 (qs.map eP ++ bad :: tl.take (7 - qs.length))).length ≤ 8 := by
    rw [enum_len, List.length_append, List.length_map, List.length_cons, List.length_take]
    omega
  obtain ⟨y3, y4, e1⟩ := ppl_pre (steps := steps) ns (some (.dat (.list W))) (bad :: tl.take (7 - qs.length)) qs [] none none nd ok hp (by rw [List.nil_append]; omega)
  rw [List.nil_append, List.length_nil, show nmU [] = [] from rfl] at e1
  have e2 : ∃ s h, loopF tg34 (pplB ns) (enumD qs.length (bad :: tl.take (7 - qs.length))) [some (.dat (.list (eS steps))), some (.dat (.list W)), some (.loc 0), y3, y4] [.lst (nmU qs)] = .ex 4 [("number", .int (qs.length : Nat))] s h := by
    rw [show enumD qs.length (bad :: tl.take (7 - qs.length)) = .pr [.int (qs.length : Nat), bad] :: enumD (qs.length + 1) (tl.take (7 - qs.length)) from rfl, loopF]
    rw [show tg34 (.pr [.int (qs.length : Nat), bad]) [some (.dat (.list (eS steps))), some (.dat (.list W)), some (.loc 0), y3, y4] [.lst (nmU qs)] = some [some (.dat (.list (eS steps))), some (.dat (.list W)), some (.loc 0), some (.int (qs.length : Nat)), some (ofPd bad)] from rfl]
    rcases hb with hb | ⟨p, rfl, hq, hm, hk⟩
    · simp only [ppl_no ns hb]
      exact ⟨_, _, rfl⟩
    · have := ppl_dup ns hq hm hk ok (some (.dat (.list W))) (.int (qs.length : Nat))
      rw [show ofPd (eP p) = .dat (eP p) from rfl]
      simp only [this]
      exact ⟨_, _, rfl⟩
  obtain ⟨s, h, e2⟩ := e2
  have z : decide ((enumD 0 (qs.map eP ++ bad :: tl.take (7 - qs.length))).length < lim) = true := decide_eq_true (by unfold lim; omega)
  have st : sForF (wEnum (lC (mSlD (mV 1) (oN) (oS (mC (.int 8)))) (lN))) tg34 (pplB ns) [some (.dat (.list (eS steps))), some (.dat (.list W)), some (.loc 0), none, none] [.lst []] = .ex 4 [("number", .int (qs.length : Nat))] s h := by
    have e : wEnum (lC (mSlD (mV 1) (oN) (oS (mC (.int 8)))) (lN)) [some (.dat (.list (eS steps))), some (.dat (.list W)), some (.loc 0), none, none] [.lst []] = .ok (enumD 0 (qs.map eP ++ bad :: tl.take (7 - qs.length))) [.lst []] := by
      simp only [wOf, lC, mSlD, mV, oN, oS, mC, lN, R.bind, List.getElem?_cons_zero, List.getElem?_cons_succ, cu, vEnum, datSeq]
    rw [sForF, e]
    simp only [R.bindS]
    rw [z, if_pos rfl, e1, e2]
  have e : m_check_people ns (slotsOf 5 [.dat (.list (eS steps)), .dat (.list W)]) [] = .ex 4 [("number", .int (qs.length : Nat))] s h := by
    unfold m_check_people
    have c0 : sIf (bNot (bV (m1 (fIsi "list") (mV 1)))) (sRaise0 1) (sPass) (slotsOf 5 [.dat (.list (eS steps)), .dat (.list W)]) [] = .nx [some (.dat (.list (eS steps))), some (.dat (.list W)), none, none, none] [] := by
      simp [slotsOf, sSeq, sIf, sAsg, sRet, sRetN, sE, sPut, Vm.putIn, bV, bNot, bAnd, bOr, m2, m1, mV, mC, mBt, mCall, lC, lN, R.bind, R.bindS, fIxD, seqOf, fGt, fLt, fLe, fGe, fSub, fMod, fDiv, fPow, fI, asB, fInt, gtN, pureO, pureU, outM, outU, fMulE, fMulD, fAddD, sPass, fAbs, fMax2, fMin2, mIf, mL, newO, fLenD, P0.at, pdOf, fIsi, tyU, kitB]
    have c1 : sAsg (mL lN) (gtN 2) [some (.dat (.list (eS steps))), some (.dat (.list W)), none, none, none] [] = .nx [some (.dat (.list (eS steps))), some (.dat (.list W)), some (.loc 0), none, none] [.lst []] := rfl
    rw [sSeq, c0]
    simp only
    rw [sSeq, c1]
    simp only
    rw [sSeq]
    unfold pplB at st
    rw [st]
  exact pfn_ex rfl e rfl
end
end Law

set_option Elab.async false
set_option linter.all false
set_option maxRecDepth 100000
set_option maxHeartbeats 4100000
namespace Law
open PySem PySem.Spec PyProof.Rows L2 Vm
section
variable {steps : List Str} {ps : List Pn}
theorem init_bad (ns : List Int) {W : PyData} {f : List (Str × U)} (h1 : p_check_steps ns [.dat (.list (eS steps))] = .ok .non) (h2 : p_check_people ns [.dat (.list (eS steps)), ofPd W] = .ex 4 f) : p_p_Staff___init__ ns (.ins 7 []) [.dat (.list (eS steps)), ofPd W] = .ex 4 f (.ins 7 []) := by
  have a1 : ∀ h, d_check_steps ns [.dat (.list (eS steps))] h = .ok .non h := runP_ok h1
  have a2 : ∀ h, d_check_people ns [.dat (.list (eS steps)), ofPd W] h = .ex 4 f h := runP_ex h2
  have pf : pureF f = true := by
    have e := h2
    unfold p_check_people pfn at e
    split at e
    · cases em : m_check_people ns (slotsOf 5 [.dat (.list (eS steps)), ofPd W]) [] with
      | ex c g s h =>
        rw [em] at e
        simp only [toP] at e
        split at e
        · cases e
          assumption
        · cases e
      | nx s h => rw [em] at e; cases e
      | rt u h =>
        rw [em] at e
        simp only [toP] at e
        split at e <;> cases e
      | bk s h => rw [em] at e; cases e
      | ct s h => rw [em] at e; cases e
      | stuck => rw [em] at e; cases e
    · cases e
  have e : m_p_Staff___init__ ns [some (.loc 0), some (.dat (.list (eS steps))), some (ofPd W), none] [.ins 7 []] = .ex 4 f [some (.loc 0), some (.dat (.list (eS steps))), some (ofPd W), none] [.ins 7 []] := by
    unfold m_p_Staff___init__
    simp only [sSeq, sE, mCall, lC, mV, lN, R.bind, R.bindS, List.getElem?_cons_zero, List.getElem?_cons_succ, a1, a2]
  show toM (m_p_Staff___init__ ns [some (.loc 0), some (.dat (.list (eS steps))), some (ofPd W), none] [.ins 7 []]) = _
  rw [e]
  simp only [toM, pureO, pureF, List.all_nil, Bool.true_and]
  rw [show (f.all fun p => pureU p.2) = true from pf]
  rfl
/-- Staff(..) of what is refused for a person -/
theorem made_bad (ns : List Int) {S : PyData} {W : PyData} {i : Int} (h : p_p_Staff___init__ ns (.ins 7 []) [ofPd S, ofPd W] = .ex 4 [("number", .int i)] (.ins 7 [])) : p_law_made ns [ofPd S, ofPd W] = .ok (.dat (.tuple [.str "person", .int i])) := by
  have hp : (([ofPd S, ofPd W] : List U).all pureU) = true := by simp [pu_of]
  have c : mMakeD 7 (p_p_Staff___init__ ns)  (lC (mV 0) (lC (mV 1) (lN))) [some (ofPd S), some (ofPd W), none] [] = .ex 4 [("number", .int i)] [] := by
    simp only [mMakeD, lC, mV, lN, R.bind, List.getElem?_cons_zero, List.getElem?_cons_succ]
    rw [hp, if_pos rfl, h]
    rfl
  have e : m_law_made ns (slotsOf 3 [ofPd S, ofPd W]) [] = .rt (.dat (.tuple [.str "person", .int i])) [] := by
    unfold m_law_made
    rw [show slotsOf 3 [ofPd S, ofPd W] = [some (ofPd S), some (ofPd W), none] from rfl, sSeq, sTryM, sE, c]
    have e1 : ∀ (s : Sl) (g : List (Str × U)), cleanS s = true → unslot 2 (RS.rt (U.dat (.tuple [.str "person", .int i])) ([] : Mh)) = RS.rt (U.dat (.tuple [.str "person", .int i])) [] := fun _ _ _ => rfl
    rfl
  exact pfn_rt hp e rfl
theorem made_ok (ns : List Int) {S : PyData} {W : PyData} {fs : List (Str × U)} (pf : pureF fs = true) (h : p_p_Staff___init__ ns (.ins 7 []) [ofPd S, ofPd W] = .ok .non (.ins 7 fs)) : p_law_made ns [ofPd S, ofPd W] = .ok .non := by
  have hp : (([ofPd S, ofPd W] : List U).all pureU) = true := by simp [pu_of]
  have c : mMakeD 7 (p_p_Staff___init__ ns)  (lC (mV 0) (lC (mV 1) (lN))) [some (ofPd S), some (ofPd W), none] [] = .ok (.obj 7 fs) [] := by
    simp only [mMakeD, lC, mV, lN, R.bind, List.getElem?_cons_zero, List.getElem?_cons_succ]
    rw [hp, if_pos rfl, h]
    simp only [outU, List.getElem?_cons_zero]
    have pf' : (fs.all fun p => pureU p.2) = true := pf
    first
      | rfl
      | (rw [pf]; rfl)
      | simp [pf, pf', pureO]
  have e : m_law_made ns (slotsOf 3 [ofPd S, ofPd W]) [] = .rt .non [] := by
    unfold m_law_made
    rw [show slotsOf 3 [ofPd S, ofPd W] = [some (ofPd S), some (ofPd W), none] from rfl, sSeq, sTryM, sE, c]
    rfl
  exact pfn_rt hp e rfl
end
end Law

set_option Elab.async false
set_option linter.all false
set_option maxRecDepth 100000
set_option maxHeartbeats 4100000
namespace Law
open PySem PySem.Spec PyProof.Rows L2 Vm
section
variable {steps : List Str} {ps : List Pn}
theorem pu2 (v : PyData) : (([staffU steps ps, ofPd v] : List U).all pureU) = true := by
  rw [List.all_cons, List.all_cons, pu_of]
  rfl
theorem pu3 (v o : PyData) : (([staffU steps ps, ofPd v, ofPd o] : List U).all pureU) = true := by
  rw [List.all_cons, List.all_cons, List.all_cons, pu_of, pu_of]
  rfl
theorem any_at {l : List Str} (hl : ∀ x ∈ l, Ok x) {v : PyData} (hv : SeqAt.shaped v = true) (h : Mh) : fInB (ofPd v) (.dat (.list (eS l))) h = some (l.any fun x => PyData.eqv (.str x) v) := by
  unfold fInB
  rw [Vm.rd_of, rd_dat]
  simp only [hv, Lf.list (emb_str.lfs hl), Bool.and_self, if_true, eS, List.any_map]
  rfl
theorem ord_names : (ordL steps ps).map (·.1) = ps.map (·.1) := by
  rw [List.map_map]
  rfl
theorem k_names (k : StOk steps ps) : ∀ x ∈ ps.map (·.1), Ok x := fun x hx => by
  obtain ⟨p, hp, rfl⟩ := List.mem_map.mp hx
  exact ns_ok _ (k.pns p hp).1
theorem names_at (ns : List Int) (k : StOk steps ps) : p_p_Staff_names ns [staffU steps ps] = .ok (.dat (.list (eS (ps.map (·.1))))) := by
  have hl := k.pl
  have c := mLcF_yes (m := wSeq (mFldD 7 "_people" (mV 0))) (t := gtN 1) (e := m2 (fIxD ns) (mV 1) (mC (.int 0))) (vs := [1]) (s := [some (staffU steps ps), none]) (h := []) (us := ((ordL steps ps).map eP).map ofPd)
    (fe := fun u => match u with | .dat (.tuple [.str a, _, _]) => .str a | _ => .none) rfl (by rw [List.length_map, List.length_map, List.length_map]; unfold lim; omega) (fun x hx => by
      obtain ⟨p, hp, rfl⟩ := mem_eP hx
      exact ⟨[some (staffU steps ps), some (.dat (eP p))], rfl, rfl⟩)
  have e : m_p_Staff_names ns (slotsOf 2 [staffU steps ps]) [] = .rt (.dat (.list (eS (ps.map (·.1))))) [] := by
    unfold m_p_Staff_names
    rw [show slotsOf 2 [staffU steps ps] = [some (staffU steps ps), none] from rfl, sRet, c]
    have z : ((((ordL steps ps).map eP).map ofPd).map fun u => match u with | .dat (.tuple [.str a, _, _]) => PyData.str a | _ => .none) = eS (ps.map (·.1)) := by
      rw [List.map_map, List.map_map, List.map_map, eS, List.map_map]
      rfl
    rw [z]
    rfl
  exact pfn_rt rfl e rfl
theorem contains_at (ns : List Int) (k : StOk steps ps) {v : PyData} (hv : SeqAt.shaped v = true) : p_p_Staff___contains__ ns [staffU steps ps, ofPd v] = .ok (.bl ((ps.map (·.1)).any fun x => PyData.eqv (.str x) v)) := by
  have c : ∀ h, mPropD 7 (d_p_Staff_names ns)  (mV 0) [some (staffU steps ps), some (ofPd v)] h = .ok (.dat (.list (eS (ps.map (·.1))))) h := fun h => by
    have q := runP_ok (names_at ns k) h
    simp only [mPropD, mV, List.getElem?_cons_zero, R.bind]
    rw [show insD 7 (staffU steps ps) h = some (staffF steps ps) from rfl]
    simp only
    rw [show d_p_Staff_names ns [staffU steps ps] h = .ok (.dat (.list (eS (ps.map (·.1))))) h from q]
    rfl
  have e : m_p_Staff___contains__ ns (slotsOf 2 [staffU steps ps, ofPd v]) [] = .rt (.bl ((ps.map (·.1)).any fun x => PyData.eqv (.str x) v)) [] := by
    unfold m_p_Staff___contains__
    rw [show slotsOf 2 [staffU steps ps, ofPd v] = [some (staffU steps ps), some (ofPd v)] from rfl]
    simp only [sRet, m2, c, R.bind, R.bindS, mV, List.getElem?_cons_zero, List.getElem?_cons_succ, fIn, any_at (k_names k) hv]
  exact pfn_rt (pu2 v) e rfl
theorem notin_at (ns : List Int) (k : StOk steps ps) {v : PyData} (hv : SeqAt.shaped v = true) (h : Mh) : fInOwn true 7 (d_p_Staff___contains__ ns) (ofPd v) (staffU steps ps) h = .ok (.bl (!((ps.map (·.1)).any fun x => PyData.eqv (.str x) v))) h := by
  have q : d_p_Staff___contains__ ns [staffU steps ps, ofPd v] h = .ok (.bl ((ps.map (·.1)).any fun x => PyData.eqv (.str x) v)) h := runP_ok (contains_at ns k hv) h
  unfold fInOwn
  rw [show insD 7 (staffU steps ps) h = some (staffF steps ps) from rfl]
  simp only [q, if_true]
theorem isl_at (v : PyData) (hv : SeqAt.shaped v = true) (h : Mh) : fIsi "list" (ofPd v) h = .ok (.bl (match v with | .list _ => true | _ => false)) h := by
  cases v with
  | dict l => cases hv
  | _ => rfl
/-- a value that is no name of a person -/
theorem person_no (ns : List Int) (k : StOk steps ps) {v : PyData} (hv : SeqAt.shaped v = true) (hn : ∀ p ∈ ps, PyData.eqv (.str p.1) v = false) : p_p_Staff__person ns [staffU steps ps, ofPd v] = .ex 6 [("name", ofPd v)] := by
  have hl := k.pl
  have lp : ∀ (qs : List Pn) (x2 : Option U), (∀ p ∈ qs, Ok p.1 ∧ PyData.eqv (.str p.1) v = false) → ∃ y2, loopF (gtN 2) (sIf (bV (m2 fEq (m2 (fIxD ns) (mV 2) (mC (.int 0))) (mV 1))) (sRet (mV 2)) (sPass)) ((qs.map eP).map ofPd) [some (staffU steps ps), some (ofPd v), x2] [] = .nx [some (staffU steps ps), some (ofPd v), y2] [] := by
    intro qs
    induction qs with
    | nil => exact fun x2 _ => ⟨x2, rfl⟩
    | cons p qs ih =>
      intro x2 hq
      obtain ⟨y2, e⟩ := ih (some (.dat (eP p))) fun q hq' => hq q (List.mem_cons_of_mem _ hq')
      obtain ⟨o, n⟩ := hq p (.head _)
      refine ⟨y2, ?_⟩
      rw [List.map_cons, List.map_cons, loopF]
      simp only [gtN, List.set]
      have q1 : fEq (.str p.1) (ofPd v) [] = .ok (.bl false) [] := by
        simp only [fEq, fEqB, Vm.rd_of]
        rw [show rd [] deep (.str p.1) = some (.str p.1) from Vm.rd_of [] deep (.str p.1)]
        simp only [(Lf.str o).shaped, hv, Bool.and_self, if_true, n]
      have q2 : fIxD ns (.dat (eP p)) (.int 0) [] = .ok (.str p.1) [] := rfl
      have t : sIf (bV (m2 fEq (m2 (fIxD ns) (mV 2) (mC (.int 0))) (mV 1))) (sRet (mV 2)) (sPass) [some (staffU steps ps), some (ofPd v), some (.dat (eP p))] [] = .nx [some (staffU steps ps), some (ofPd v), some (.dat (eP p))] [] := by
        simp only [sIf, bV, m2, mV, mC, List.getElem?_cons_zero, List.getElem?_cons_succ, R.bind, R.bindS, q2, q1, asB, sPass]
      rw [show ofPd (eP p) = .dat (eP p) from rfl, t]
      exact e
  obtain ⟨y2, e1⟩ := lp (ordL steps ps) none fun p hp => by
    rcases List.mem_map.mp hp with ⟨q, hq, rfl⟩
    exact ⟨ns_ok _ (k.pns q hq).1, hn q hq⟩
  have e : m_p_Staff__person ns (slotsOf 3 [staffU steps ps, ofPd v]) [] = .ex 6 [("name", ofPd v)] [some (staffU steps ps), some (ofPd v), y2] [] := by
    unfold m_p_Staff__person
    rw [show slotsOf 3 [staffU steps ps, ofPd v] = [some (staffU steps ps), some (ofPd v), none] from rfl]
    have z : decide ((((ordL steps ps).map eP).map ofPd).length < lim) = true := decide_eq_true (by rw [List.length_map, List.length_map, List.length_map]; unfold lim; omega)
    have w : wSeq (mFldD 7 "_people" (mV 0)) [some (staffU steps ps), some (ofPd v), none] [] = .ok (((ordL steps ps).map eP).map ofPd) [] := rfl
    have st : sForF (wSeq (mFldD 7 "_people" (mV 0))) (gtN 2) (sIf (bV (m2 fEq (m2 (fIxD ns) (mV 2) (mC (.int 0))) (mV 1))) (sRet (mV 2)) (sPass)) [some (staffU steps ps), some (ofPd v), none] [] = .nx [some (staffU steps ps), some (ofPd v), y2] [] := by
      rw [sForF, w]
      simp only [R.bindS]
      rw [z, if_pos rfl, e1]
    rw [sSeq, st]
    simp only [sRaise1, mV, List.getElem?_cons_zero, List.getElem?_cons_succ, R.bindS]
  exact pfn_ex (pu2 v) e (by simp [pureF, pu_of])
theorem meth_no (ns : List Int) (k : StOk steps ps) {v : PyData} (hv : SeqAt.shaped v = true) (hn : ∀ p ∈ ps, PyData.eqv (.str p.1) v = false) (h : Mh) : mMethD 7 "_person" (d_p_Staff__person ns)  (mV 0) (lC (mV 1) (lN)) [some (staffU steps ps), some (ofPd v)] h = .ex 6 [("name", ofPd v)] h := by
  have q := runP_ex (person_no ns k hv hn) h
  simp only [mMethD, mV, List.getElem?_cons_zero, List.getElem?_cons_succ, R.bind]
  rw [show insD 7 (staffU steps ps) h = some (staffF steps ps) from rfl]
  simp only
  rw [show List.lookup ("_person" : Str) (staffF steps ps) = none from rfl]
  simp only [lC, mV, lN, List.getElem?_cons_zero, List.getElem?_cons_succ, R.bind]
  exact q
theorem group_no (ns : List Int) (k : StOk steps ps) {v : PyData} (hv : SeqAt.shaped v = true) (hn : ∀ p ∈ ps, PyData.eqv (.str p.1) v = false) : p_p_Staff_group ns [staffU steps ps, ofPd v] = .ex 6 [("name", ofPd v)] := by
  have e : m_p_Staff_group ns (slotsOf 2 [staffU steps ps, ofPd v]) [] = .ex 6 [("name", ofPd v)] [some (staffU steps ps), some (ofPd v)] [] := by
    unfold m_p_Staff_group
    rw [show slotsOf 2 [staffU steps ps, ofPd v] = [some (staffU steps ps), some (ofPd v)] from rfl, sRet, m2, meth_no ns k hv hn]
    rfl
  exact pfn_ex (pu2 v) e (by simp [pureF, pu_of])
theorem list_no (ns : List Int) (k : StOk steps ps) {v : PyData} (hv : SeqAt.shaped v = true) (hn : ∀ p ∈ ps, PyData.eqv (.str p.1) v = false) : p_p_Staff_list_of ns [staffU steps ps, ofPd v] = .ex 6 [("name", ofPd v)] := by
  have e : m_p_Staff_list_of ns (slotsOf 2 [staffU steps ps, ofPd v]) [] = .ex 6 [("name", ofPd v)] [some (staffU steps ps), some (ofPd v)] [] := by
    unfold m_p_Staff_list_of
    rw [show slotsOf 2 [staffU steps ps, ofPd v] = [some (staffU steps ps), some (ofPd v)] from rfl, sRet, m2, meth_no ns k hv hn]
    rfl
  exact pfn_ex (pu2 v) e (by simp [pureF, pu_of])
theorem step_no {v : PyData} (k : StOk steps ps) (hv : SeqAt.shaped v = true) (hs : ∀ x ∈ steps, PyData.eqv (.str x) v = false) (h : Mh) : fNotIn (ofPd v) (.dat (.list (eS steps))) h = .ok (.bl true) h := by
  have z : (steps.any fun x => PyData.eqv (.str x) v) = false := by
    rw [List.any_eq_false]
    exact fun x hx => by rw [hs x hx]; exact Bool.false_ne_true
  simp only [fNotIn, any_at k.oks hv, z, Bool.not_false]
theorem able_no (ns : List Int) (k : StOk steps ps) {v : PyData} (hv : SeqAt.shaped v = true) (hs : ∀ x ∈ steps, PyData.eqv (.str x) v = false) : p_p_Staff_able ns [staffU steps ps, ofPd v] = .ex 5 [("name", ofPd v)] := by
  have e : m_p_Staff_able ns (slotsOf 3 [staffU steps ps, ofPd v]) [] = .ex 5 [("name", ofPd v)] [some (staffU steps ps), some (ofPd v), none] [] := by
    unfold m_p_Staff_able
    have f1 : ∀ S h, mFldD 7 "_steps" (mV 0) (some (staffU steps ps) :: S) h = .ok (.dat (.list (eS steps))) h := fun S h => rfl
    rw [show slotsOf 3 [staffU steps ps, ofPd v] = [some (staffU steps ps), some (ofPd v), none] from rfl]
    simp only [sSeq, sIf, bV, m2, mV, List.getElem?_cons_zero, List.getElem?_cons_succ, R.bind, R.bindS, f1, step_no k hv hs, asB, sRaise1]
  exact pfn_ex (pu2 v) e (by simp [pureF, pu_of])
theorem only_step (ns : List Int) (k : StOk steps ps) {v o : PyData} (hv : SeqAt.shaped v = true) (hs : ∀ x ∈ steps, PyData.eqv (.str x) v = false) : p_p_Staff_only ns [staffU steps ps, ofPd v, ofPd o] = .ex 5 [("name", ofPd v)] := by
  have e : m_p_Staff_only ns (slotsOf 4 [staffU steps ps, ofPd v, ofPd o]) [] = .ex 5 [("name", ofPd v)] [some (staffU steps ps), some (ofPd v), some (ofPd o), none] [] := by
    unfold m_p_Staff_only
    have f1 : ∀ S h, mFldD 7 "_steps" (mV 0) (some (staffU steps ps) :: S) h = .ok (.dat (.list (eS steps))) h := fun S h => rfl
    rw [show slotsOf 4 [staffU steps ps, ofPd v, ofPd o] = [some (staffU steps ps), some (ofPd v), some (ofPd o), none] from rfl]
    simp only [sSeq, sIf, bV, m2, mV, List.getElem?_cons_zero, List.getElem?_cons_succ, R.bind, R.bindS, f1, step_no k hv hs, asB, sRaise1]
  exact pfn_ex (pu3 v o) e (by simp [pureF, pu_of])
theorem no_any {v : PyData} (hn : ∀ p ∈ ps, PyData.eqv (.str p.1) v = false) : ((ps.map (·.1)).any fun x => PyData.eqv (.str x) v) = false := by
  rw [List.any_eq_false]
  intro x hx
  obtain ⟨p, hp, rfl⟩ := List.mem_map.mp hx
  rw [hn p hp]
  exact Bool.false_ne_true
theorem only_person (ns : List Int) (k : StOk steps ps) {x : Str} (hx : x ∈ steps) {v : PyData} (hv : SeqAt.shaped v = true) (hn : ∀ p ∈ ps, PyData.eqv (.str p.1) v = false) : p_p_Staff_only ns [staffU steps ps, .str x, ofPd v] = .ex 6 [("name", ofPd v)] := by
  have e : m_p_Staff_only ns (slotsOf 4 [staffU steps ps, .str x, ofPd v]) [] = .ex 6 [("name", ofPd v)] [some (staffU steps ps), some (.str x), some (ofPd v), none] [] := by
    unfold m_p_Staff_only
    have f1 : ∀ S h, mFldD 7 "_steps" (mV 0) (some (staffU steps ps) :: S) h = .ok (.dat (.list (eS steps))) h := fun S h => rfl
    have f2 : ∀ h, fNotIn (.str x) (.dat (.list (eS steps))) h = .ok (.bl false) h := fun h => by
      have i2 : fInB (.str x) (.dat (.list (eS steps))) h = some true := by
        rw [show U.str x = ofPd (.str x) from rfl, emb_str.in_at (k.oks x hx) k.oks (.inl (rd_dat _ _ _)), decide_eq_true hx]
      simp only [fNotIn, i2, Bool.not_true]
    have f3 : ∀ h, fInOwn true 7 (d_p_Staff___contains__ ns) (ofPd v) (staffU steps ps) h = .ok (.bl true) h := fun h => by
      rw [notin_at ns k hv h, no_any hn]
      rfl
    rw [show slotsOf 4 [staffU steps ps, .str x, ofPd v] = [some (staffU steps ps), some (.str x), some (ofPd v), none] from rfl]
    simp only [sSeq, sIf, bV, m2, mV, List.getElem?_cons_zero, List.getElem?_cons_succ, R.bind, R.bindS, f1, f2, f3, asB, sRaise1, sPass]
  exact pfn_ex (pu3 (.str x) v) e (by simp [pureF, pu_of])
theorem without_no (ns : List Int) {v : PyData} (hs : SeqAt.shaped v = true) (hv : ∀ l, v ≠ .list l) : p_p_Staff_without ns [staffU steps ps, ofPd v] = .ex 1 [] := by
  have e0 : ∀ h, fIsi "list" (ofPd v) h = .ok (.bl false) h := fun h => by
    rw [isl_at v hs]
    cases v with
    | list l => exact absurd rfl (hv l)
    | _ => rfl
  have e : m_p_Staff_without ns (slotsOf 4 [staffU steps ps, ofPd v]) [] = .ex 1 [] [some (staffU steps ps), some (ofPd v), none, none] [] := by
    unfold m_p_Staff_without
    rw [show slotsOf 4 [staffU steps ps, ofPd v] = [some (staffU steps ps), some (ofPd v), none, none] from rfl]
    simp only [sSeq, sIf, bNot, bV, m1, mV, List.getElem?_cons_zero, List.getElem?_cons_succ, R.bind, R.bindS, e0, asB, Bool.not_false, sRaise0]
  exact pfn_ex (pu2 v) e rfl
end
end Law

set_option Elab.async false
set_option linter.all false
set_option maxRecDepth 100000
set_option maxHeartbeats 4100000
namespace Law
open PySem PySem.Spec PyProof.Rows L2 Vm
section
variable {steps : List Str} {ps : List Pn}
def woB (ns : List Int) : Ms := sIf (bV (m2 (fInOwn true 7 (d_p_Staff___contains__ ns) ) (mV 2) (mV 0))) (sRaise1 6 "name" (mV 2)) (sPass)
theorem wo_in (ns : List Int) (k : StOk steps ps) {x : Str} (hx : x ∈ ps.map (·.1)) (L x3 : Option U) (h : Mh) : woB ns [some (staffU steps ps), L, some (.str x), x3] h = .nx [some (staffU steps ps), L, some (.str x), x3] h := by
  have ok := k_names k x hx
  have q : fInOwn true 7 (d_p_Staff___contains__ ns) (.str x) (staffU steps ps) h = .ok (.bl false) h := by
    have := notin_at ns k (v := .str x) (Lf.str ok).shaped h
    rw [show ofPd (.str x) = .str x from rfl] at this
    rw [this]
    have z : ((ps.map (·.1)).any fun y => PyData.eqv (.str y) (.str x)) = true := List.any_eq_true.mpr ⟨x, hx, by rw [eqv_str]; exact decide_eq_true rfl⟩
    rw [z]
    rfl
  simp only [woB, sIf, bV, m2, mV, List.getElem?_cons_zero, List.getElem?_cons_succ, R.bind, R.bindS, q, asB, sPass]
theorem wo_out (ns : List Int) (k : StOk steps ps) {v : PyData} (hv : SeqAt.shaped v = true) (hn : ∀ p ∈ ps, PyData.eqv (.str p.1) v = false) (L x3 : Option U) (h : Mh) : woB ns [some (staffU steps ps), L, some (ofPd v), x3] h = .ex 6 [("name", ofPd v)] [some (staffU steps ps), L, some (ofPd v), x3] h := by
  have q : fInOwn true 7 (d_p_Staff___contains__ ns) (ofPd v) (staffU steps ps) h = .ok (.bl true) h := by
    rw [notin_at ns k hv h, no_any hn]
    rfl
  simp only [woB, sIf, bV, m2, mV, List.getElem?_cons_zero, List.getElem?_cons_succ, R.bind, R.bindS, q, asB, sRaise1]
theorem wo_loop (ns : List Int) (k : StOk steps ps) {v : PyData} (hv : SeqAt.shaped v = true) (hn : ∀ p ∈ ps, PyData.eqv (.str p.1) v = false) (L x3 : Option U) (tl : List U) : ∀ (l : List Str) (x2 : Option U), (∀ x ∈ l, x ∈ ps.map (·.1)) →
    ∃ s, loopF (gtN 2) (woB ns) (l.map U.str ++ ofPd v :: tl) [some (staffU steps ps), L, x2, x3] [] = .ex 6 [("name", ofPd v)] s []
  | [], x2, _ => by
    refine ⟨[some (staffU steps ps), L, some (ofPd v), x3], ?_⟩
    rw [List.map_nil, List.nil_append, loopF]
    simp only [gtN, List.set, wo_out ns k hv hn]
  | x :: l, x2, hx => by
    obtain ⟨s, ih⟩ := wo_loop ns k hv hn L x3 tl l (some (.str x)) fun y hy => hx y (List.mem_cons_of_mem _ hy)
    refine ⟨s, ?_⟩
    rw [List.map_cons, List.cons_append, loopF]
    simp only [gtN, List.set, wo_in ns k (hx x (.head _))]
    exact ih
theorem without_bad (ns : List Int) (k : StOk steps ps) {v : PyData} (hv : SeqAt.shaped v = true) (hn : ∀ p ∈ ps, PyData.eqv (.str p.1) v = false) {l : List Str} (hl : ∀ x ∈ l, x ∈ ps.map (·.1)) (ll : l.length ≤ 1000) (tl : List PyData) (tn : tl.length ≤ 1000) :
    p_p_Staff_without ns [staffU steps ps, .dat (.list (eS l ++ v :: tl))] = .ex 6 [("name", ofPd v)] := by
  obtain ⟨s, e1⟩ := wo_loop ns k hv hn (some (.dat (.list (eS l ++ v :: tl)))) none (tl.map ofPd) l none hl
  have e : m_p_Staff_without ns (slotsOf 4 [staffU steps ps, .dat (.list (eS l ++ v :: tl))]) [] = .ex 6 [("name", ofPd v)] s [] := by
    unfold m_p_Staff_without
    rw [show slotsOf 4 [staffU steps ps, .dat (.list (eS l ++ v :: tl))] = [some (staffU steps ps), some (.dat (.list (eS l ++ v :: tl))), none, none] from rfl]
    have e0 : ∀ h, fIsi "list" (.dat (.list (eS l ++ v :: tl))) h = .ok (.bl true) h := fun h => rfl
    have w : wSeq (mV 1) [some (staffU steps ps), some (.dat (.list (eS l ++ v :: tl))), none, none] [] = .ok (l.map U.str ++ ofPd v :: tl.map ofPd) [] := by
      show (match vSeq (.dat (.list (eS l ++ v :: tl))) with
        | some us => R.ok us []
        | none => .stuck) = _
      rw [vSeq_list, List.map_append, of_str, List.map_cons]
    have z : decide ((l.map U.str ++ ofPd v :: tl.map ofPd).length < lim) = true := decide_eq_true (by simp; unfold lim; omega)
    have st : sForF (wSeq (mV 1)) (gtN 2) (woB ns) [some (staffU steps ps), some (.dat (.list (eS l ++ v :: tl))), none, none] [] = .ex 6 [("name", ofPd v)] s [] := by
      rw [sForF, w]
      simp only [R.bindS]
      rw [z, if_pos rfl, e1]
    unfold woB at st
    simp only [sSeq, sIf, bNot, bV, m1, mV, List.getElem?_cons_zero, List.getElem?_cons_succ, R.bind, R.bindS, e0, asB, Bool.not_true, sPass] at st ⊢
    rw [st]
  exact pfn_ex rfl e (by simp [pureF, pu_of])
/-- part of the people -/
theorem part_ok (k : StOk steps ps) (f : Pn → Bool) : StOk steps ((ordL steps ps).filter f) := by
  have hf : ∀ p ∈ (ordL steps ps).filter f, ∃ q ∈ ps, p = ordP steps q := fun p hp => by
    obtain ⟨q, hq, e⟩ := List.mem_map.mp (List.mem_filter.mp hp).1
    exact ⟨q, hq, e.symm⟩
  refine ⟨k.s0, k.s1, k.snd, k.sns, ?_, ?_, fun p hp => ?_⟩
  · have h1 := List.length_filter_le f (ordL steps ps)
    rw [List.length_map] at h1
    have := k.pl
    omega
  · have h1 : (((ordL steps ps).filter f).map (·.1)).Sublist ((ordL steps ps).map (·.1)) := List.filter_sublist.map _
    rw [ord_names] at h1
    exact k.pnd.sublist h1
  · obtain ⟨q, hq, rfl⟩ := hf p hp
    obtain ⟨h1, h2, h3, h4, h5⟩ := k.pns q hq
    exact ⟨h1, h2, fun x hx => (List.mem_filter.mp hx).1, k.snd.sublist List.filter_sublist, List.length_filter_le _ _⟩
theorem without_one (ns : List Int) (k : StOk steps ps) {c : Str} (hc : c ∈ ps.map (·.1)) : ∃ fs, pureF fs = true ∧ p_p_Staff_without ns [staffU steps ps, .dat (.list [.str c])] = .ok (.obj 7 fs) := by
  have hl := k.pl
  have okc := k_names k c hc
  let qs := (ordL steps ps).filter fun p => !decide (p.1 = c)
  have kq : StOk steps qs := part_ok k _
  refine ⟨staffF steps qs, rfl, ?_⟩
  have s0 : ∀ x2 x3, ([some (staffU steps ps), some (.dat (.list [.str c])), x2, x3] : Sl) = [some (staffU steps ps), some (.dat (.list [.str c])), x2, x3] := fun _ _ => rfl
  have cmp : ∀ x2, mLcF (wSeq (mFldD 7 "_people" (mV 0))) (gtN 3) (bV (m2 fNotIn (m2 (fIxD ns) (mV 3) (mC (.int 0))) (mV 1))) (mV 3) [3] [some (staffU steps ps), some (.dat (.list [.str c])), x2, none] [] = .ok (.dat (.list (qs.map eP))) [] := fun x2 => by
    have := mLcF_if (m := wSeq (mFldD 7 "_people" (mV 0))) (t := gtN 3) (q := bV (m2 fNotIn (m2 (fIxD ns) (mV 3) (mC (.int 0))) (mV 1))) (e := mV 3) (vs := [3]) (s := [some (staffU steps ps), some (.dat (.list [.str c])), x2, none]) (h := []) (us := ((ordL steps ps).map eP).map ofPd)
      (qb := fun u => match u with | .dat (.tuple [.str a, _, _]) => !decide (a = c) | _ => false) (fe := fun u => match u with | .dat d => d | _ => .none) rfl (by rw [List.length_map, List.length_map, List.length_map]; unfold lim; omega) (fun u hu => by
        obtain ⟨p, hp, rfl⟩ := mem_eP hu
        rcases List.mem_map.mp hp with ⟨q, hq, rfl⟩
        refine ⟨[some (staffU steps ps), some (.dat (.list [.str c])), x2, some (.dat (eP (ordP steps q)))], rfl, ?_, fun _ => rfl⟩
        have i1 : fNotIn (.str q.1) (.dat (.list [.str c])) [] = .ok (.bl (!decide (q.1 = c))) [] := by
          have i2 : fInB (.str q.1) (.dat (.list [.str c])) [] = some (decide (q.1 ∈ [c])) := by
            show fInB (ofPd (.str q.1)) (.dat (.list (([c] : List Str).map PyData.str))) [] = _
            exact emb_str.in_at (l := [c]) (ns_ok _ (k.pns q hq).1) (fun x hx => by rw [List.mem_singleton.mp hx]; exact okc) (.inl (rd_dat _ _ _))
          simp only [fNotIn, i2, List.mem_singleton]
        have i0 : fIxD ns (.dat (eP (ordP steps q))) (.int 0) [] = .ok (.str q.1) [] := rfl
        simp only [bV, m2, mV, mC, List.getElem?_cons_zero, List.getElem?_cons_succ, R.bind, i0, i1, asB])
    rw [this]
    congr 3
    rw [List.map_map,
      List.filter_map, List.map_map]
    have z : ((fun u : U => match u with | .dat (.tuple [.str a, _, _]) => !decide (a = c) | _ => false) ∘ (ofPd ∘ eP)) = fun p : Pn => !decide (p.1 = c) := rfl
    rw [z]
    rfl
  have e : m_p_Staff_without ns (slotsOf 4 [staffU steps ps, .dat (.list [.str c])]) [] = .rt (staffU steps qs) [] := by
    unfold m_p_Staff_without
    rw [show slotsOf 4 [staffU steps ps, .dat (.list [.str c])] = [some (staffU steps ps), some (.dat (.list [.str c])), none, none] from rfl]
    have e0 : ∀ h, fIsi "list" (.dat (.list [.str c])) h = .ok (.bl true) h := fun h => rfl
    have st : sForF (wSeq (mV 1)) (gtN 2) (woB ns) [some (staffU steps ps), some (.dat (.list [.str c])), none, none] [] = .nx [some (staffU steps ps), some (.dat (.list [.str c])), some (.str c), none] [] := by
      have z : decide ((([.str c] : List PyData).map ofPd).length < lim) = true := decide_eq_true (by show 1 < lim; unfold lim; omega)
      have w : wSeq (mV 1) [some (staffU steps ps), some (.dat (.list [.str c])), none, none] [] = .ok (([.str c] : List PyData).map ofPd) [] := rfl
      rw [sForF, w]
      simp only [R.bindS]
      rw [z, if_pos rfl, List.map_cons, List.map_nil, show ofPd (.str c) = .str c from rfl, loopF]
      simp only [gtN, List.set, wo_in ns k hc, loopF]
    have mk : mMakeD 7 (p_p_Staff___init__ ns)  (lC (mFldD 7 "_steps" (mV 0)) (lC (mLcF (wSeq (mFldD 7 "_people" (mV 0))) (gtN 3) (bV (m2 fNotIn (m2 (fIxD ns) (mV 3) (mC (.int 0))) (mV 1))) (mV 3) [3]) (lN))) [some (staffU steps ps), some (.dat (.list [.str c])), some (.str c), none] [] = .ok (staffU steps qs) [] := by
      have f1 : mFldD 7 "_steps" (mV 0) [some (staffU steps ps), some (.dat (.list [.str c])), some (.str c), none] [] = .ok (.dat (.list (eS steps))) [] := rfl
      simp only [mMakeD, lC, f1, cmp, lN, R.bind, init_at ns kq]
      rfl
    unfold woB at st
    simp only [sSeq, sIf, bNot, bV, m1, mV, List.getElem?_cons_zero, List.getElem?_cons_succ, R.bind, R.bindS, e0, asB, Bool.not_true, sPass] at st ⊢
    rw [st]
    show (mMakeD 7 (p_p_Staff___init__ ns)  (lC (mFldD 7 "_steps" (mV 0)) (lC (mLcF (wSeq (mFldD 7 "_people" (mV 0))) (gtN 3) (bV (m2 fNotIn (m2 (fIxD ns) (mV 3) (mC (.int 0))) (mV 1))) (mV 3) [3]) (lN))) [some (staffU steps ps), some (.dat (.list [.str c])), some (.str c), none] []).bindS [some (staffU steps ps), some (.dat (.list [.str c])), some (.str c), none] (fun u h1 => .rt u h1) = _
    rw [mk]
    rfl
  exact pfn_rt rfl e rfl
end
end Law

set_option Elab.async false
set_option linter.all false
set_option maxRecDepth 100000
set_option maxHeartbeats 4100000
namespace Law
open PySem PySem.Spec PyProof.Rows L2 Vm
section
variable {steps : List Str} {ps : List Pn}
theorem meth_at {m : Str} {d : List U → Mh → R U} {L : Ml} {S : Sl} {h : Mh} {us : List U} (lk : List.lookup m (staffF steps ps) = none) (eL : L (some (staffU steps ps) :: S) h = .ok us h) : mMethD 7 m d (mV 0) L (some (staffU steps ps) :: S) h = d (staffU steps ps :: us) h := by
  simp only [mMethD, mV, List.getElem?_cons_zero, R.bind]
  rw [show insD 7 (staffU steps ps) h = some (staffF steps ps) from rfl]
  simp only [lk, eL, R.bind]
def askC (ns : List Int) : Ms := sSeq (sIf (bV (m2 fEq (mV 1) (mC (.int 0)))) (sE (mMethD 7 "group" (d_p_Staff_group ns)  (mV 0) (lC (mV 2) (lN)))) (sPass))
    (sSeq (sIf (bV (m2 fEq (mV 1) (mC (.int 1)))) (sE (mMethD 7 "list_of" (d_p_Staff_list_of ns)  (mV 0) (lC (mV 2) (lN)))) (sPass))
    (sSeq (sIf (bV (m2 fEq (mV 1) (mC (.int 2)))) (sE (mMethD 7 "able" (d_p_Staff_able ns)  (mV 0) (lC (mV 2) (lN)))) (sPass))
    (sSeq (sIf (bV (m2 fEq (mV 1) (mC (.int 3)))) (sE (mMethD 7 "without" (d_p_Staff_without ns)  (mV 0) (lC (mV 2) (lN)))) (sPass))
    (sIf (bV (m2 fEq (mV 1) (mC (.int 4)))) (sE (mMethD 7 "only" (d_p_Staff_only ns)  (mV 0) (lC (mV 2) (lC (mV 3) (lN))))) (sPass)))))
abbrev askS (steps : List Str) (ps : List Pn) (nth : Int) (v o : PyData) : Sl := [some (staffU steps ps), some (.int nth), some (ofPd v), some (ofPd o), none]
abbrev Rp (w : PyData) : Prop := (!w.hasDict && w.showable && decide (w.shown.length ≤ 100000) && decide (w.depth ≤ 60)) = true
theorem pu4 (nth : Int) (v o : PyData) : (([staffU steps ps, .int nth, ofPd v, ofPd o] : List U).all pureU) = true := by
  rw [List.all_cons, List.all_cons, List.all_cons, List.all_cons, pu_of, pu_of]
  rfl
theorem repr_of {w : PyData} (rp : Rp w) (h : Mh) : fRepr [ofPd w] h = .ok (.str w.shown) h := by simp only [fRepr, Vm.rd_of, rp, if_true]
theorem ask_person (ns : List Int) {nth : Int} {v o w : PyData} (rp : Rp w) (ch : askC ns (askS steps ps nth v o) [] = .ex 6 [("name", ofPd w)] (askS steps ps nth v o) []) : p_law_asked ns [staffU steps ps, .int nth, ofPd v, ofPd o] = .ok (.dat (.tuple [.str "person", .str w.shown])) := by
  have hx : mXf [("name", ofPd w)] "name" (mV 4) [some (staffU steps ps), some (.int nth), some (ofPd v), some (ofPd o), some .exn] [] = .ok (ofPd w) [] := rfl
  have td : (mTd (lC (mC (.str "person")) (lC (mBt (fRepr) (lC (mXf [("name", ofPd w)] "name" (mV 4)) (lN))) (lN)))) [some (staffU steps ps), some (.int nth), some (ofPd v), some (ofPd o), some .exn] [] = .ok (.dat (.tuple [.str "person", .str w.shown])) [] := by
    simp only [mTd, lC, mC, mBt, lN, R.bind, hx, repr_of rp]
    rfl
  have e : m_law_asked ns (slotsOf 5 [staffU steps ps, .int nth, ofPd v, ofPd o]) [] = .rt (.dat (.tuple [.str "person", .str w.shown])) [] := by
    unfold m_law_asked
    unfold askC at ch
    rw [show slotsOf 5 [staffU steps ps, .int nth, ofPd v, ofPd o] = askS steps ps nth v o from rfl, sSeq, sTryM, ch]
    have u : handM [⟨tk0 7 fun c => c == 1 || 1 == 0, none, fun _ _ => sRet (mTd (lC (mC (.str "list")) (lC (mC (.str "")) (lN))))⟩,
        ⟨tk0 7 fun c => c == 6 || 6 == 0, some 4, fun c f => sRet (mTd (lC (mC (.str "person")) (lC (mBt (fRepr) (lC (mXf f "name" (mV 4)) (lN))) (lN))))⟩,
        ⟨tk0 7 fun c => c == 5 || 5 == 0, some 4, fun c f => sRet (mTd (lC (mC (.str "step")) (lC (mBt (fRepr) (lC (mXf f "name" (mV 4)) (lN))) (lN))))⟩] 6 [("name", ofPd w)] (askS steps ps nth v o) [] = unslot 4 (sRet (mTd (lC (mC (.str "person")) (lC (mBt (fRepr) (lC (mXf [("name", ofPd w)] "name" (mV 4)) (lN))) (lN)))) [some (staffU steps ps), some (.int nth), some (ofPd v), some (ofPd o), some .exn] []) := rfl
    simp only
    rw [u, sRet, td]
    rfl
  exact pfn_rt (pu4 nth v o) e rfl
theorem ask_step (ns : List Int) {nth : Int} {v o w : PyData} (rp : Rp w) (ch : askC ns (askS steps ps nth v o) [] = .ex 5 [("name", ofPd w)] (askS steps ps nth v o) []) : p_law_asked ns [staffU steps ps, .int nth, ofPd v, ofPd o] = .ok (.dat (.tuple [.str "step", .str w.shown])) := by
  have hx : mXf [("name", ofPd w)] "name" (mV 4) [some (staffU steps ps), some (.int nth), some (ofPd v), some (ofPd o), some .exn] [] = .ok (ofPd w) [] := rfl
  have td : (mTd (lC (mC (.str "step")) (lC (mBt (fRepr) (lC (mXf [("name", ofPd w)] "name" (mV 4)) (lN))) (lN)))) [some (staffU steps ps), some (.int nth), some (ofPd v), some (ofPd o), some .exn] [] = .ok (.dat (.tuple [.str "step", .str w.shown])) [] := by
    simp only [mTd, lC, mC, mBt, lN, R.bind, hx, repr_of rp]
    rfl
  have e : m_law_asked ns (slotsOf 5 [staffU steps ps, .int nth, ofPd v, ofPd o]) [] = .rt (.dat (.tuple [.str "step", .str w.shown])) [] := by
    unfold m_law_asked
    unfold askC at ch
    rw [show slotsOf 5 [staffU steps ps, .int nth, ofPd v, ofPd o] = askS steps ps nth v o from rfl, sSeq, sTryM, ch]
    have u : handM [⟨tk0 7 fun c => c == 1 || 1 == 0, none, fun _ _ => sRet (mTd (lC (mC (.str "list")) (lC (mC (.str "")) (lN))))⟩,
        ⟨tk0 7 fun c => c == 6 || 6 == 0, some 4, fun c f => sRet (mTd (lC (mC (.str "person")) (lC (mBt (fRepr) (lC (mXf f "name" (mV 4)) (lN))) (lN))))⟩,
        ⟨tk0 7 fun c => c == 5 || 5 == 0, some 4, fun c f => sRet (mTd (lC (mC (.str "step")) (lC (mBt (fRepr) (lC (mXf f "name" (mV 4)) (lN))) (lN))))⟩] 5 [("name", ofPd w)] (askS steps ps nth v o) [] = unslot 4 (sRet (mTd (lC (mC (.str "step")) (lC (mBt (fRepr) (lC (mXf [("name", ofPd w)] "name" (mV 4)) (lN))) (lN)))) [some (staffU steps ps), some (.int nth), some (ofPd v), some (ofPd o), some .exn] []) := rfl
    simp only
    rw [u, sRet, td]
    rfl
  exact pfn_rt (pu4 nth v o) e rfl
theorem ask_list (ns : List Int) {nth : Int} {v o : PyData} (ch : askC ns (askS steps ps nth v o) [] = .ex 1 [] (askS steps ps nth v o) []) : p_law_asked ns [staffU steps ps, .int nth, ofPd v, ofPd o] = .ok (.dat (.tuple [.str "list", .str ""])) := by
  have e : m_law_asked ns (slotsOf 5 [staffU steps ps, .int nth, ofPd v, ofPd o]) [] = .rt (.dat (.tuple [.str "list", .str ""])) [] := by
    unfold m_law_asked
    unfold askC at ch
    rw [show slotsOf 5 [staffU steps ps, .int nth, ofPd v, ofPd o] = askS steps ps nth v o from rfl, sSeq, sTryM, ch]
    rfl
  exact pfn_rt (pu4 nth v o) e rfl
theorem ask_none (ns : List Int) {nth : Int} {v o : PyData} (ch : askC ns (askS steps ps nth v o) [] = .nx (askS steps ps nth v o) []) : p_law_asked ns [staffU steps ps, .int nth, ofPd v, ofPd o] = .ok .non := by
  have e : m_law_asked ns (slotsOf 5 [staffU steps ps, .int nth, ofPd v, ofPd o]) [] = .rt .non [] := by
    unfold m_law_asked
    unfold askC at ch
    rw [show slotsOf 5 [staffU steps ps, .int nth, ofPd v, ofPd o] = askS steps ps nth v o from rfl, sSeq, sTryM, ch]
    rfl
  exact pfn_rt (pu4 nth v o) e rfl
theorem ch0 (ns : List Int) {v o : PyData} {f : List (Str × U)} {c : Nat} (q : p_p_Staff_group ns [staffU steps ps, ofPd v] = .ex c f) : askC ns (askS steps ps 0 v o) [] = .ex c f (askS steps ps 0 v o) [] := by
  have m : mMethD 7 "group" (d_p_Staff_group ns)  (mV 0) (lC (mV 2) (lN)) (askS steps ps 0 v o) [] = .ex c f [] := (meth_at (us := [ofPd v]) rfl rfl).trans (runP_ex q [])
  have q0 : fEq (.int 0) (.int 0) [] = .ok (.bl true) [] := fEq_int 0 0 []
  simp only [askC, sSeq, sIf, bV, m2, mV, mC, List.getElem?_cons_zero, List.getElem?_cons_succ, R.bind, R.bindS, q0, asB, sE, m]
theorem ch1 (ns : List Int) {v o : PyData} {f : List (Str × U)} {c : Nat} (q : p_p_Staff_list_of ns [staffU steps ps, ofPd v] = .ex c f) : askC ns (askS steps ps 1 v o) [] = .ex c f (askS steps ps 1 v o) [] := by
  have m : mMethD 7 "list_of" (d_p_Staff_list_of ns)  (mV 0) (lC (mV 2) (lN)) (askS steps ps 1 v o) [] = .ex c f [] := (meth_at (us := [ofPd v]) rfl rfl).trans (runP_ex q [])
  have q0 : fEq (.int 1) (.int 0) [] = .ok (.bl false) [] := fEq_int 1 0 []
  have q1 : fEq (.int 1) (.int 1) [] = .ok (.bl true) [] := fEq_int 1 1 []
  simp only [askC, sSeq, sIf, bV, m2, mV, mC, List.getElem?_cons_zero, List.getElem?_cons_succ, R.bind, R.bindS, q0, q1, asB, sE, sPass, m]
theorem ch2 (ns : List Int) {v o : PyData} {f : List (Str × U)} {c : Nat} (q : p_p_Staff_able ns [staffU steps ps, ofPd v] = .ex c f) : askC ns (askS steps ps 2 v o) [] = .ex c f (askS steps ps 2 v o) [] := by
  have m : mMethD 7 "able" (d_p_Staff_able ns)  (mV 0) (lC (mV 2) (lN)) (askS steps ps 2 v o) [] = .ex c f [] := (meth_at (us := [ofPd v]) rfl rfl).trans (runP_ex q [])
  have q0 : fEq (.int 2) (.int 0) [] = .ok (.bl false) [] := fEq_int 2 0 []
  have q1 : fEq (.int 2) (.int 1) [] = .ok (.bl false) [] := fEq_int 2 1 []
  have q2 : fEq (.int 2) (.int 2) [] = .ok (.bl true) [] := fEq_int 2 2 []
  simp only [askC, sSeq, sIf, bV, m2, mV, mC, List.getElem?_cons_zero, List.getElem?_cons_succ, R.bind, R.bindS, q0, q1, q2, asB, sE, sPass, m]
theorem ch3 (ns : List Int) {v o : PyData} {f : List (Str × U)} {c : Nat} (q : p_p_Staff_without ns [staffU steps ps, ofPd v] = .ex c f) : askC ns (askS steps ps 3 v o) [] = .ex c f (askS steps ps 3 v o) [] := by
  have m : mMethD 7 "without" (d_p_Staff_without ns)  (mV 0) (lC (mV 2) (lN)) (askS steps ps 3 v o) [] = .ex c f [] := (meth_at (us := [ofPd v]) rfl rfl).trans (runP_ex q [])
  have q0 : fEq (.int 3) (.int 0) [] = .ok (.bl false) [] := fEq_int 3 0 []
  have q1 : fEq (.int 3) (.int 1) [] = .ok (.bl false) [] := fEq_int 3 1 []
  have q2 : fEq (.int 3) (.int 2) [] = .ok (.bl false) [] := fEq_int 3 2 []
  have q3 : fEq (.int 3) (.int 3) [] = .ok (.bl true) [] := fEq_int 3 3 []
  simp only [askC, sSeq, sIf, bV, m2, mV, mC, List.getElem?_cons_zero, List.getElem?_cons_succ, R.bind, R.bindS, q0, q1, q2, q3, asB, sE, sPass, m]
theorem ch3n (ns : List Int) {v o : PyData} {u : U} (q : p_p_Staff_without ns [staffU steps ps, ofPd v] = .ok u) : askC ns (askS steps ps 3 v o) [] = .nx (askS steps ps 3 v o) [] := by
  have m : mMethD 7 "without" (d_p_Staff_without ns)  (mV 0) (lC (mV 2) (lN)) (askS steps ps 3 v o) [] = .ok u [] := (meth_at (us := [ofPd v]) rfl rfl).trans (runP_ok q [])
  have q0 : fEq (.int 3) (.int 0) [] = .ok (.bl false) [] := fEq_int 3 0 []
  have q1 : fEq (.int 3) (.int 1) [] = .ok (.bl false) [] := fEq_int 3 1 []
  have q2 : fEq (.int 3) (.int 2) [] = .ok (.bl false) [] := fEq_int 3 2 []
  have q3 : fEq (.int 3) (.int 3) [] = .ok (.bl true) [] := fEq_int 3 3 []
  have q4 : fEq (.int 3) (.int 4) [] = .ok (.bl false) [] := fEq_int 3 4 []
  simp only [askC, sSeq, sIf, bV, m2, mV, mC, List.getElem?_cons_zero, List.getElem?_cons_succ, R.bind, R.bindS, q0, q1, q2, q3, q4, asB, sE, sPass, m]
theorem ch4 (ns : List Int) {v o : PyData} {f : List (Str × U)} {c : Nat} (q : p_p_Staff_only ns [staffU steps ps, ofPd v, ofPd o] = .ex c f) : askC ns (askS steps ps 4 v o) [] = .ex c f (askS steps ps 4 v o) [] := by
  have m : mMethD 7 "only" (d_p_Staff_only ns)  (mV 0) (lC (mV 2) (lC (mV 3) (lN))) (askS steps ps 4 v o) [] = .ex c f [] := (meth_at (us := [ofPd v, ofPd o]) rfl rfl).trans (runP_ex q [])
  have q0 : fEq (.int 4) (.int 0) [] = .ok (.bl false) [] := fEq_int 4 0 []
  have q1 : fEq (.int 4) (.int 1) [] = .ok (.bl false) [] := fEq_int 4 1 []
  have q2 : fEq (.int 4) (.int 2) [] = .ok (.bl false) [] := fEq_int 4 2 []
  have q3 : fEq (.int 4) (.int 3) [] = .ok (.bl false) [] := fEq_int 4 3 []
  have q4 : fEq (.int 4) (.int 4) [] = .ok (.bl true) [] := fEq_int 4 4 []
  simp only [askC, sSeq, sIf, bV, m2, mV, mC, List.getElem?_cons_zero, List.getElem?_cons_succ, R.bind, R.bindS, q0, q1, q2, q3, q4, asB, sE, sPass, m]
end
end Law

set_option Elab.async false
set_option linter.all false
set_option maxRecDepth 100000
set_option maxHeartbeats 4100000
namespace Law
open PySem PySem.Spec PyProof.Rows L2 Vm
section
variable {steps : List Str} {ps : List Pn}
theorem vR1_nat (n : Nat) (h : n < 1000) : vR1 [.int (n : Nat)] = some (upI 0 n) := by
  unfold vR1
  simp only [Int.toNat_natCast, ite_eq_left_iff, decide_eq_true_eq]
  intro hn
  exact absurd ⟨by omega, by omega⟩ hn
theorem wR1_at {L : Ml} {s : Sl} {h h1 : Mh} {us l : List U} (e : L s h = .ok us h1) (z : vR1 us = some l) : wR1 L s h = .ok l h1 := by
  show (L s h).bind (fun us h1 => match vR1 us with
    | some l => R.ok l h1
    | none => .stuck) = _
  rw [e]
  show (match vR1 us with
    | some l => R.ok l h1
    | none => .stuck) = _
  rw [z]
theorem fNe_same {x : Str} (hx : Ok x) (h : Mh) : fNe (.str x) (.str x) h = .ok (.bl false) h := by
  have e1 : SeqAt.shaped (.str x) = true := (Lf.str hx).shaped
  have e3 : rd h deep (.str x) = some (.str x) := Vm.rd_of h deep (.str x)
  simp only [fNe, fEqB, e3, e1, Bool.and_self, if_true, eqv_str, decide_true, Bool.not_true]
theorem fAddD_list (a b : List PyData) (h : Mh) (hl : a.length + b.length ≤ 100000) : fAddD (.dat (.list a)) (.dat (.list b)) h = .ok (.dat (.list (a ++ b))) h := by
  have z : okLen ((a.map ofPd).length + (b.map ofPd).length) = true := by simp [slotsOf, sSeq, sIf, sAsg, sRet, sRetN, sE, sPut, Vm.putIn, bV, bNot, bAnd, bOr, m2, m1, mV, mC, mBt, mCall, lC, lN, R.bind, R.bindS, fIxD, seqOf, fGt, fLt, fLe, fGe, fSub, fMod, fDiv, fPow, fI, asB, fInt, gtN, pureO, pureU, outM, outU, fMulE, fMulD, fAddD, sPass, fAbs, fMax2, fMin2, mIf, mL, newO, fLenD, P0.at, pdOf, okLen]; omega
  show (if okLen ((a.map ofPd).length + (b.map ofPd).length) then newL (a.map ofPd ++ b.map ofPd) h else .stuck) = _
  rw [z, if_pos rfl, ← List.map_append]
  exact newL_of _ _
abbrev pT (v : PyData) : PyData := .tuple [.str "person", .str v.shown]
abbrev sT (v : PyData) : PyData := .tuple [.str "step", .str v.shown]
abbrev lT : PyData := .tuple [.str "list", .str ""]
abbrev dueL (v X : PyData) : List PyData := [pT v, pT v, sT v, X, sT v]
def tol (v X : PyData) : Int → PyData
  | 0 => pT v
  | 1 => pT v
  | 2 => sT v
  | 3 => X
  | _ => sT v
/-- the seventeen -/
abbrev askT (steps : List Str) (ps : List Pn) (s0 s1 s2 s3 s4 : Option U) (v : PyData) (s6 s10 s11 x12 x13 x14 s15 x16 : Option U) : Sl :=
  [s0, s1, s2, s3, s4, some (ofPd v), s6, some (staffU steps ps), some (.dat (.list (eS steps))), some (.dat (.list (ps.map eP))), s10, s11, x12, x13, x14, s15, x16]
variable {s0 s1 s2 s3 s4 s6 s10 s11 x12 x13 x14 s15 x16 : Option U} {v X : PyData} {h : Mh}
theorem told_at (ns : List Int) (a : ∀ i : Int, 0 ≤ i → i < 5 → p_law_asked ns [staffU steps ps, .int i, ofPd v, ofPd v] = .ok (ofPd (tol v X i))) :
    sAsg (mLcF (wR1 (lC (mC (.int 5)) (lN))) (gtN 16) (bYes) (mCall (d_law_asked ns)  (lC (mV 7) (lC (mV 16) (lC (mV 5) (lC (mV 5) (lN)))))) [16]) (gtN 12) (askT steps ps s0 s1 s2 s3 s4 v s6 s10 s11 x12 x13 x14 s15 x16) h
      = .nx (askT steps ps s0 s1 s2 s3 s4 v s6 s10 s11 (some (.dat (.list (dueL v X)))) x13 x14 s15 x16) h := by
  have w : wR1 (lC (mC (.int 5)) (lN)) (askT steps ps s0 s1 s2 s3 s4 v s6 s10 s11 x12 x13 x14 s15 x16) h = .ok (upI 0 5) h := wR1_at (us := [.int (5 : Nat)]) rfl (vR1_nat 5 (by decide))
  have c := mLcF_yes (m := wR1 (lC (mC (.int 5)) (lN))) (t := gtN 16) (e := mCall (d_law_asked ns)  (lC (mV 7) (lC (mV 16) (lC (mV 5) (lC (mV 5) (lN)))))) (vs := [16]) (s := askT steps ps s0 s1 s2 s3 s4 v s6 s10 s11 x12 x13 x14 s15 x16) (h := h) (us := upI 0 5)
    (fe := fun u => match u with | .int i => tol v X i | _ => .none) w (by rw [upI_len]; unfold lim; omega) (fun u hu => by
      have hu' : u ∈ [U.int 0, .int 1, .int 2, .int 3, .int 4] := hu
      obtain ⟨i, h0, h5, rfl⟩ : ∃ i : Int, 0 ≤ i ∧ i < 5 ∧ u = .int i := by
        simp only [List.mem_cons, List.not_mem_nil, or_false] at hu'
        rcases hu' with rfl | rfl | rfl | rfl | rfl
        · exact ⟨0, by decide, by decide, rfl⟩
        · exact ⟨1, by decide, by decide, rfl⟩
        · exact ⟨2, by decide, by decide, rfl⟩
        · exact ⟨3, by decide, by decide, rfl⟩
        · exact ⟨4, by decide, by decide, rfl⟩
      refine ⟨_, rfl, ?_⟩
      have q : d_law_asked ns [staffU steps ps, .int i, ofPd v, ofPd v] h = .ok (ofPd (tol v X i)) h := runP_ok (a i h0 h5) h
      simp only [mCall, lC, mV, lN, R.bind, wipeM, askT, List.set, List.getElem?_cons_zero, List.getElem?_cons_succ, q])
  have z : (upI 0 5).map (fun u => match u with | .int i => tol v X i | _ => .none) = dueL v X := rfl
  rw [sAsg, c, z]
  rfl
def due1 : Ms := sAsg (mL (lC (mTd (lC (mC (.str "person")) (lC (mBt (fRepr) (lC (mV 5) (lN))) (lN)))) (lC (mTd (lC (mC (.str "person")) (lC (mBt (fRepr) (lC (mV 5) (lN))) (lN)))) (lC (mTd (lC (mC (.str "step")) (lC (mBt (fRepr) (lC (mV 5) (lN))) (lN)))) (lN))))) (gtN 13)
def due2 : Ms := sAsg (m2 fAddM (mV 13) (mLd (lC (mTd (lC (mC (.str "list")) (lC (mC (.str "")) (lN)))) (lC (mTd (lC (mC (.str "step")) (lC (mBt (fRepr) (lC (mV 5) (lN))) (lN)))) (lN))))) (gtN 13)
def due3 (ns : List Int) : Ms := sIf (bV (m1 (fIsi "list") (mV 5))) (sPut (mV 13) (mC (.int 3)) (mIf (bV (m2 (fInOwn true 7 (d_p_Staff___contains__ ns) ) (m2 (fIxD ns) (mV 5) (mC (.int 0))) (mV 7))) (mTd (lC (mC (.str "person")) (lC (mBt (fRepr) (lC (m2 (fIxD ns) (mV 5) (mC (.int 0))) (lN))) (lN)))) (mC .non))) (sPass)
theorem due1_at (rp : Rp v) : due1 (askT steps ps s0 s1 s2 s3 s4 v s6 s10 s11 x12 x13 x14 s15 x16) h
    = .nx (askT steps ps s0 s1 s2 s3 s4 v s6 s10 s11 x12 (some (.loc h.length)) x14 s15 x16) (h ++ [.lst [.dat (pT v), .dat (pT v), .dat (sT v)]]) := by
  have r := repr_of rp h
  have t1 : mTd (lC (mC (.str "person")) (lC (mBt (fRepr) (lC (mV 5) (lN))) (lN))) (askT steps ps s0 s1 s2 s3 s4 v s6 s10 s11 x12 x13 x14 s15 x16) h = .ok (.dat (pT v)) h := by
    simp only [mTd, lC, mC, mBt, lN, mV, askT, R.bind, List.getElem?_cons_zero, List.getElem?_cons_succ, r]
    rfl
  have t2 : mTd (lC (mC (.str "step")) (lC (mBt (fRepr) (lC (mV 5) (lN))) (lN))) (askT steps ps s0 s1 s2 s3 s4 v s6 s10 s11 x12 x13 x14 s15 x16) h = .ok (.dat (sT v)) h := by
    simp only [mTd, lC, mC, mBt, lN, mV, askT, R.bind, List.getElem?_cons_zero, List.getElem?_cons_succ, r]
    rfl
  simp only [due1, sAsg, mL, lC, lN, t1, t2, R.bind, R.bindS, newO, gtN]
  rfl
theorem due2_at (rp : Rp v) : due2 (askT steps ps s0 s1 s2 s3 s4 v s6 s10 s11 x12 (some (.loc h.length)) x14 s15 x16) (h ++ [.lst [.dat (pT v), .dat (pT v), .dat (sT v)]])
    = .nx (askT steps ps s0 s1 s2 s3 s4 v s6 s10 s11 x12 (some (.loc (h.length + 1))) x14 s15 x16) (h ++ [.lst [.dat (pT v), .dat (pT v), .dat (sT v)], .lst [.dat (pT v), .dat (pT v), .dat (sT v), .dat lT, .dat (sT v)]]) := by
  let h1 : Mh := h ++ [.lst [.dat (pT v), .dat (pT v), .dat (sT v)]]
  have r := repr_of rp h1
  have t1 : mTd (lC (mC (.str "list")) (lC (mC (.str "")) (lN))) (askT steps ps s0 s1 s2 s3 s4 v s6 s10 s11 x12 (some (.loc h.length)) x14 s15 x16) h1 = .ok (.dat lT) h1 := rfl
  have t2 : mTd (lC (mC (.str "step")) (lC (mBt (fRepr) (lC (mV 5) (lN))) (lN))) (askT steps ps s0 s1 s2 s3 s4 v s6 s10 s11 x12 (some (.loc h.length)) x14 s15 x16) h1 = .ok (.dat (sT v)) h1 := by
    simp only [mTd, lC, mC, mBt, lN, mV, askT, R.bind, List.getElem?_cons_zero, List.getElem?_cons_succ, r]
    rfl
  have t3 : mLd (lC (mTd (lC (mC (.str "list")) (lC (mC (.str "")) (lN)))) (lC (mTd (lC (mC (.str "step")) (lC (mBt (fRepr) (lC (mV 5) (lN))) (lN)))) (lN))) (askT steps ps s0 s1 s2 s3 s4 v s6 s10 s11 x12 (some (.loc h.length)) x14 s15 x16) h1 = .ok (.dat (.list [lT, sT v])) h1 := by
    simp only [mLd, lC, lN, t1, t2, R.bind]
    rfl
  have sq : seqOf (.loc h.length) h1 = some (true, [.dat (pT v), .dat (pT v), .dat (sT v)]) := by
    have : h1[h.length]? = some (.lst [.dat (pT v), .dat (pT v), .dat (sT v)]) := by simp [h1]
    simp only [seqOf, this]
  have ad : fAddM (.loc h.length) (.dat (.list [lT, sT v])) h1 = .ok (.loc (h.length + 1)) (h ++ [.lst [.dat (pT v), .dat (pT v), .dat (sT v)], .lst [.dat (pT v), .dat (pT v), .dat (sT v), .dat lT, .dat (sT v)]]) := by
    have sq2 : seqOf (.dat (.list [lT, sT v])) h1 = some (true, [.dat lT, .dat (sT v)]) := rfl
    simp only [fAddM, sq, sq2]
    rw [if_pos (by rfl)]
    simp [newO, h1]
  show (m2 fAddM (mV 13) (mLd (lC (mTd (lC (mC (.str "list")) (lC (mC (.str "")) (lN)))) (lC (mTd (lC (mC (.str "step")) (lC (mBt (fRepr) (lC (mV 5) (lN))) (lN)))) (lN)))) (askT steps ps s0 s1 s2 s3 s4 v s6 s10 s11 x12 (some (.loc h.length)) x14 s15 x16) h1).bindS _ _ = _
  simp only [m2, t3, R.bind]
  rw [show mV 13 (askT steps ps s0 s1 s2 s3 s4 v s6 s10 s11 x12 (some (.loc h.length)) x14 s15 x16) h1 = .ok (.loc h.length) h1 from rfl]
  simp only [t3, ad, R.bindS, gtN]
  rfl
theorem frz_at {l : List PyData} : sFrz 13 (askT steps ps s0 s1 s2 s3 s4 v s6 s10 s11 x12 (some (.loc (h.length + 1))) x14 s15 x16) (h ++ [.lst [.dat (pT v), .dat (pT v), .dat (sT v)], .lst (l.map ofPd)])
    = .nx (askT steps ps s0 s1 s2 s3 s4 v s6 s10 s11 x12 (some (.dat (.list l))) x14 s15 x16) (h ++ [.lst [.dat (pT v), .dat (pT v), .dat (sT v)], .ded]) := by
  have e1 : (h ++ [O.lst [.dat (pT v), .dat (pT v), .dat (sT v)], .lst (l.map ofPd)])[h.length + 1]? = some (.lst (l.map ofPd)) := by simp
  have e2 : (h ++ [O.lst [.dat (pT v), .dat (pT v), .dat (sT v)], .lst (l.map ofPd)]).set (h.length + 1) .ded = h ++ [.lst [.dat (pT v), .dat (pT v), .dat (sT v)], .ded] := by
    rw [List.set_append_right _ _ (by omega), show h.length + 1 - h.length = 1 by omega]
    rfl
  show (match (h ++ [O.lst [.dat (pT v), .dat (pT v), .dat (sT v)], .lst (l.map ofPd)])[h.length + 1]? with
    | some (.lst xs) => match pdsOf xs with
      | some ds => RS.nx ((askT steps ps s0 s1 s2 s3 s4 v s6 s10 s11 x12 (some (.loc (h.length + 1))) x14 s15 x16).set 13 (some (.dat (.list ds)))) ((h ++ [O.lst [.dat (pT v), .dat (pT v), .dat (sT v)], .lst (l.map ofPd)]).set (h.length + 1) .ded)
      | none => .stuck
    | _ => .stuck) = _
  rw [e1]
  simp only [pds_of, e2]
  rfl
/-- no list: nothing is put -/
theorem due3_no (ns : List Int) (hs : SeqAt.shaped v = true) (hv : ∀ l, v ≠ .list l) : due3 ns (askT steps ps s0 s1 s2 s3 s4 v s6 s10 s11 x12 x13 x14 s15 x16) h = .nx (askT steps ps s0 s1 s2 s3 s4 v s6 s10 s11 x12 x13 x14 s15 x16) h := by
  have e0 : fIsi "list" (ofPd v) h = .ok (.bl false) h := by
    rw [isl_at v hs]
    cases v with
    | list l => exact absurd rfl (hv l)
    | _ => rfl
  simp only [due3, sIf, bV, m1, mV, askT, List.getElem?_cons_zero, List.getElem?_cons_succ, R.bind, R.bindS, e0, asB, sPass]
theorem put_at {w : U} {l : List U} (hl : l.length = 5) : putIn w (.loc (h.length + 1)) (.int 3) (askT steps ps s0 s1 s2 s3 s4 v s6 s10 s11 x12 x13 x14 s15 x16) (h ++ [.lst [.dat (pT v), .dat (pT v), .dat (sT v)], .lst l])
    = .nx (askT steps ps s0 s1 s2 s3 s4 v s6 s10 s11 x12 x13 x14 s15 x16) (h ++ [.lst [.dat (pT v), .dat (pT v), .dat (sT v)], .lst (l.set 3 w)]) := by
  have e1 : (h ++ [O.lst [.dat (pT v), .dat (pT v), .dat (sT v)], .lst l])[h.length + 1]? = some (.lst l) := by simp
  have e2 : (h ++ [O.lst [.dat (pT v), .dat (pT v), .dat (sT v)], .lst l]).set (h.length + 1) (.lst (l.set 3 w)) = h ++ [.lst [.dat (pT v), .dat (pT v), .dat (sT v)], .lst (l.set 3 w)] := by
    rw [List.set_append_right _ _ (by omega), show h.length + 1 - h.length = 1 by omega]
    rfl
  have e3 : ixN l.length 3 = some 3 := by rw [hl]; rfl
  simp only [Vm.putIn, e1, e3, e2]
theorem due3_list (ns : List Int) (k : StOk steps ps) {c : Str} (hc : Ok c) (rp : Rp (.str c)) : due3 ns (askT steps ps s0 s1 s2 s3 s4 (.list [.str c]) s6 s10 s11 x12 (some (.loc (h.length + 1))) x14 s15 x16) (h ++ [.lst [.dat (pT (.list [.str c])), .dat (pT (.list [.str c])), .dat (sT (.list [.str c]))], .lst [.dat (pT (.list [.str c])), .dat (pT (.list [.str c])), .dat (sT (.list [.str c])), .dat lT, .dat (sT (.list [.str c]))]])
    = .nx (askT steps ps s0 s1 s2 s3 s4 (.list [.str c]) s6 s10 s11 x12 (some (.loc (h.length + 1))) x14 s15 x16) (h ++ [.lst [.dat (pT (.list [.str c])), .dat (pT (.list [.str c])), .dat (sT (.list [.str c]))], .lst ((dueL (.list [.str c]) (if c ∈ ps.map (·.1) then .none else pT (.str c))).map ofPd)]) := by
  let h2 : Mh := h ++ [.lst [.dat (pT (.list [.str c])), .dat (pT (.list [.str c])), .dat (sT (.list [.str c]))], .lst [.dat (pT (.list [.str c])), .dat (pT (.list [.str c])), .dat (sT (.list [.str c])), .dat lT, .dat (sT (.list [.str c]))]]
  let S := askT steps ps s0 s1 s2 s3 s4 (.list [.str c]) s6 s10 s11 x12 (some (.loc (h.length + 1))) x14 s15 x16
  have e0 : fIsi "list" (.dat (.list [.str c])) h2 = .ok (.bl true) h2 := rfl
  have i0 : m2 (fIxD ns) (mV 5) (mC (.int 0)) S h2 = .ok (.str c) h2 := rfl
  have r := repr_of rp h2
  have ni : fInOwn true 7 (d_p_Staff___contains__ ns) (.str c) (staffU steps ps) h2 = .ok (.bl (!decide (c ∈ ps.map (·.1)))) h2 := by
    have := notin_at ns k (v := .str c) (Lf.str hc).shaped h2
    rw [show ofPd (.str c) = .str c from rfl] at this
    rw [this]
    have z : ((ps.map (·.1)).any fun y => PyData.eqv (.str y) (.str c)) = decide (c ∈ ps.map (·.1)) := by
      have := emb_str.any (ps.map (·.1)) c
      rw [List.any_map] at this
      exact this
    rw [z]
  have val : mIf (bV (m2 (fInOwn true 7 (d_p_Staff___contains__ ns) ) (m2 (fIxD ns) (mV 5) (mC (.int 0))) (mV 7))) (mTd (lC (mC (.str "person")) (lC (mBt (fRepr) (lC (m2 (fIxD ns) (mV 5) (mC (.int 0))) (lN))) (lN)))) (mC .non) S h2 = .ok (ofPd (if c ∈ ps.map (·.1) then .none else pT (.str c))) h2 := by
    have m7 : mV 7 S h2 = .ok (staffU steps ps) h2 := rfl
    have cnd : bV (m2 (fInOwn true 7 (d_p_Staff___contains__ ns) ) (m2 (fIxD ns) (mV 5) (mC (.int 0))) (mV 7)) S h2 = .ok (!decide (c ∈ ps.map (·.1))) h2 := by
      rw [bV, m2, i0]
      simp only [R.bind, m7, ni, asB]
    by_cases hm : c ∈ ps.map (·.1)
    · rw [mIf, cnd, decide_eq_true hm, if_pos hm]
      rfl
    · rw [mIf, cnd, decide_eq_false hm, if_neg hm]
      have r' : fRepr [.str c] h2 = .ok (.str (PyData.shown (.str c))) h2 := r
      simp only [R.bind, Bool.not_false, mTd, lC, mC, mBt, lN, i0, r']
      rfl
  have p := put_at (steps := steps) (ps := ps) (s0 := s0) (s1 := s1) (s2 := s2) (s3 := s3) (s4 := s4) (s6 := s6) (s10 := s10) (s11 := s11) (x12 := x12) (x13 := some (.loc (h.length + 1))) (x14 := x14) (s15 := s15) (x16 := x16) (v := .list [.str c]) (h := h) (w := ofPd (if c ∈ ps.map (·.1) then .none else pT (.str c))) (l := [.dat (pT (.list [.str c])), .dat (pT (.list [.str c])), .dat (sT (.list [.str c])), .dat lT, .dat (sT (.list [.str c]))]) rfl
  have cl : bV (m1 (fIsi "list") (mV 5)) S h2 = .ok true h2 := rfl
  show (sIf (bV (m1 (fIsi "list") (mV 5))) (sPut (mV 13) (mC (.int 3)) (mIf (bV (m2 (fInOwn true 7 (d_p_Staff___contains__ ns) ) (m2 (fIxD ns) (mV 5) (mC (.int 0))) (mV 7))) (mTd (lC (mC (.str "person")) (lC (mBt (fRepr) (lC (m2 (fIxD ns) (mV 5) (mC (.int 0))) (lN))) (lN)))) (mC .non))) (sPass)) S h2 = _
  rw [sIf, cl]
  simp only [R.bindS]
  rw [sPut, val]
  simp only [R.bindS]
  rw [show mV 13 S h2 = .ok (.loc (h.length + 1)) h2 from rfl]
  simp only [R.bindS, mC]
  rw [p]
  rfl
end
end Law

set_option Elab.async false
set_option linter.all false
set_option maxRecDepth 1000000
set_option maxHeartbeats 0
namespace Law
open PySem PySem.Spec PyProof.Rows L2 Vm
/-! ### what hangs on the steps alone -/
def allSteps : List (List Str) := (List.range 5).flatMap fun k => [S6.take (k + 1), (S6.take (k + 1)).reverse]
theorem steps_all {steps : List Str} {ps : List Pn} (d : Drawn 5 7 steps ps) : steps ∈ allSteps := by
  obtain ⟨k, k1, k2, ks⟩ := d.st
  refine List.mem_flatMap.mpr ⟨k - 1, List.mem_range.mpr (by omega), ?_⟩
  rw [show k - 1 + 1 = k by omega]
  rcases ks with rfl | rfl
  · exact .head _
  · exact .tail _ (.head _)
abbrev stU (st : List Str) : U := .dat (.list (eS st))
def okT : PM → O → Bool
  | .ok (.bl true) _, _ => true
  | _, _ => false
def pdB (u : P0) (d : PyData) : Prop := u = .ok (ofPd d)
/-- what stands behind the draw -/
def refB (ns : List Int) : Ms := sSeq (sForF (wSeq (m2 fAddD (mLd (lC (mC .non) (lC (mC (.str "")) (lC (mC (.str "A")) (lC (mC (.str "a1")) (lC (m2 fMulS (mC (.str "q")) (mC (.int 9))) (lC (mC (.int 0)) (lC (mLd (lN)) (lC (mTd (lC (mC (.str "a")) (lN))) (lC (mC (.str "a b")) (lC (mC (.bl true)) (lN)))))))))))) (mSlD (mSlD (mV 1) (oN) (oS (mV 2))) (oN) (oS (mC (.int 1)))))) (gtN 3) (sSeq (sAsg (m2 fAddD (m2 fAddD (m2 fAddD (mSlD (mV 1) (oN) (oS (mV 2))) (mLd (lC (mV 3) (lN)))) (mSlD (mV 1) (oS (mV 2)) (oN))) (mLd (lC (mC .non) (lN)))) (gtN 5))
    (sSeq (sAsg (mBt (fRepr) (lC (mV 5) (lN))) (gtN 6))
    (sIf (bOr (bV (m2 fNe (mCall (d_law_made ns)  (lC (mV 5) (lC (mC .non) (lN)))) (mTd (lC (mC (.str "step")) (lC (mV 2) (lN)))))) (bV (m2 fNe (mBt (fRepr) (lC (mV 5) (lN))) (mV 6)))) (sRet (mC (.bl false))) (sPass)))))
    (sSeq (sAsg (mLd (lC (mC (.str "a")) (lC (mC (.str "b")) (lC (mC (.str "c")) (lC (mC (.str "d")) (lC (mC (.str "e")) (lC (mC (.str "f")) (lN)))))))) (gtN 4))
    (sSeq (sIf (bOr (bV (m2 fNe (mCall (d_law_made ns)  (lC (m2 fAddD (mV 4) (mLd (lC (mC (.str "g")) (lN)))) (lC (mC .non) (lN)))) (mTd (lC (mC (.str "count")) (lC (mC (.int 0)) (lN)))))) (bV (m2 fNe (mCall (d_law_made ns)  (lC (m2 fAddD (mV 4) (mLd (lC (mC .non) (lN)))) (lC (mLd (lN)) (lN)))) (mTd (lC (mC (.str "count")) (lC (mC (.int 0)) (lN))))))) (sRet (mC (.bl false))) (sPass))
    (sSeq (sIf (bOr (bV (m2 fNe (mCall (d_law_made ns)  (lC (mLd (lN)) (lC (mC .non) (lN)))) (mTd (lC (mC (.str "count")) (lC (mC (.int 0)) (lN)))))) (bV (m2 fNotN (mCall (d_law_made ns)  (lC (mV 4) (lC (mLd (lN)) (lN)))) (mC .non)))) (sRet (mC (.bl false))) (sPass))
    (sSeq (sForF (wSeq (mLd (lC (mC .non) (lC (mBt (fTupD) (lC (mV 1) (lN))) (lC (mC (.str "ask")) (lC (mC (.int 0)) (lN))))))) (gtN 3) (sIf (bOr (bV (m2 fNe (mCall (d_law_made ns)  (lC (mV 3) (lC (mC .non) (lN)))) (mTd (lC (mC (.str "list")) (lC (mC (.int 0)) (lN)))))) (bV (m2 fNe (mCall (d_law_made ns)  (lC (mBt (fLstD) (lC (mV 1) (lN))) (lC (mV 3) (lN)))) (mTd (lC (mC (.str "list")) (lC (mC (.int 0)) (lN))))))) (sRet (mC (.bl false))) (sPass)))
    (sRet (m2 fEq (mCall (d_law_made ns)  (lC (m2 fAddD (mSlD (mV 4) (oN) (oS (mC (.int 5)))) (mLd (lC (mC (.str "a")) (lN)))) (lC (mLd (lN)) (lN)))) (mTd (lC (mC (.str "step")) (lC (mC (.int 5)) (lN))))))))))
def rtT : RS → Bool
  | .rt (.bl true) _ => true
  | _ => false

def rr (ns : List Int) (a b : Int) (st : List Str) (at_ : Nat) : Bool := match refB ns [some (.loc 0), some (stU st), some (.int at_), none, none, none, none] [fd a b] with | .rt (.bl true) [.lst [.int x, .int y]] => true | _ => false
def skB (c dp : Nat) (d : PyData) : Bool := PyData.strOk d.shown && d.canLay0 && d.showable && Nat.ble d.shown.length c && Nat.ble d.depth dp
theorem sk_of {c dp : Nat} {d : PyData} (h : skB c dp d = true) : Sk c dp d := by
  unfold skB at h
  simp only [Bool.and_eq_true, Nat.ble_eq] at h
  exact ⟨h.1.1.1.1, h.1.1.1.2, h.1.1.2, h.1.2, h.2⟩
def oddOk (ns : List Int) (st : List Str) (bad : PyData) : Bool := (match p_p_is_person ns [stU st, ofPd bad] with
  | .ok (.bl false) => true
  | _ => false) && skB 400 4 bad
def od (ns : List Int) (st : List Str) : Bool := match p_law_odd_people ns [stU st, .str "newname"] with
  | .ok (.dat (.list l)) => Nat.ble l.length 100 && l.all (oddOk ns st)
  | _ => false
def E8 : List PyData := (["a", "b", "c", "d", "e", "f", "g", "h"] : List Str).map fun x => .tuple [.str x, .str "red", .tuple []]
def made8 (ns : List Int) (st : List Str) : Bool := (match p_law_made ns [stU st, .dat (.list (E8 ++ [.none]))] with
  | .ok (.dat (.tuple [.str c, .int i])) => decide (c = "count") && decide (i = 0)
  | _ => false) && ((match p_law_made ns [stU st, .dat (.list E8)] with
  | .ok .non => true
  | _ => false) && F8.all fun n => match p_p_is_person ns [stU st, .dat (eP (n, "q", []))] with
  | .ok (.bl true) => true
  | _ => false)
theorem od_0 (ns : List Int) : od ns ["ask"] = true := by kernel_rfl
theorem e8_0 (ns : List Int) : made8 ns ["ask"] = true := by kernel_rfl
theorem rr_0_0 (ns : List Int) (a b : Int) : rr ns a b ["ask"] 0 = true := by kernel_rfl
theorem rr_0_1 (ns : List Int) (a b : Int) : rr ns a b ["ask"] 1 = true := by kernel_rfl
theorem od_1 (ns : List Int) : od ns ["ask"] = true := by kernel_rfl
theorem e8_1 (ns : List Int) : made8 ns ["ask"] = true := by kernel_rfl
theorem rr_1_0 (ns : List Int) (a b : Int) : rr ns a b ["ask"] 0 = true := by kernel_rfl
theorem rr_1_1 (ns : List Int) (a b : Int) : rr ns a b ["ask"] 1 = true := by kernel_rfl
theorem od_2 (ns : List Int) : od ns ["ask", "as"] = true := by kernel_rfl
theorem e8_2 (ns : List Int) : made8 ns ["ask", "as"] = true := by kernel_rfl
theorem rr_2_0 (ns : List Int) (a b : Int) : rr ns a b ["ask", "as"] 0 = true := by kernel_rfl
theorem rr_2_1 (ns : List Int) (a b : Int) : rr ns a b ["ask", "as"] 1 = true := by kernel_rfl
theorem rr_2_2 (ns : List Int) (a b : Int) : rr ns a b ["ask", "as"] 2 = true := by kernel_rfl
theorem od_3 (ns : List Int) : od ns ["as", "ask"] = true := by kernel_rfl
theorem e8_3 (ns : List Int) : made8 ns ["as", "ask"] = true := by kernel_rfl
theorem rr_3_0 (ns : List Int) (a b : Int) : rr ns a b ["as", "ask"] 0 = true := by kernel_rfl
theorem rr_3_1 (ns : List Int) (a b : Int) : rr ns a b ["as", "ask"] 1 = true := by kernel_rfl
theorem rr_3_2 (ns : List Int) (a b : Int) : rr ns a b ["as", "ask"] 2 = true := by kernel_rfl
theorem od_4 (ns : List Int) : od ns ["ask", "as", "bid"] = true := by kernel_rfl
theorem e8_4 (ns : List Int) : made8 ns ["ask", "as", "bid"] = true := by kernel_rfl
theorem rr_4_0 (ns : List Int) (a b : Int) : rr ns a b ["ask", "as", "bid"] 0 = true := by kernel_rfl
theorem rr_4_1 (ns : List Int) (a b : Int) : rr ns a b ["ask", "as", "bid"] 1 = true := by kernel_rfl
theorem rr_4_2 (ns : List Int) (a b : Int) : rr ns a b ["ask", "as", "bid"] 2 = true := by kernel_rfl
theorem rr_4_3 (ns : List Int) (a b : Int) : rr ns a b ["ask", "as", "bid"] 3 = true := by kernel_rfl
theorem od_5 (ns : List Int) : od ns ["bid", "as", "ask"] = true := by kernel_rfl
theorem e8_5 (ns : List Int) : made8 ns ["bid", "as", "ask"] = true := by kernel_rfl
theorem rr_5_0 (ns : List Int) (a b : Int) : rr ns a b ["bid", "as", "ask"] 0 = true := by kernel_rfl
theorem rr_5_1 (ns : List Int) (a b : Int) : rr ns a b ["bid", "as", "ask"] 1 = true := by kernel_rfl
theorem rr_5_2 (ns : List Int) (a b : Int) : rr ns a b ["bid", "as", "ask"] 2 = true := by kernel_rfl
theorem rr_5_3 (ns : List Int) (a b : Int) : rr ns a b ["bid", "as", "ask"] 3 = true := by kernel_rfl
theorem od_6 (ns : List Int) : od ns ["ask", "as", "bid", "cut"] = true := by kernel_rfl
theorem e8_6 (ns : List Int) : made8 ns ["ask", "as", "bid", "cut"] = true := by kernel_rfl
theorem rr_6_0 (ns : List Int) (a b : Int) : rr ns a b ["ask", "as", "bid", "cut"] 0 = true := by kernel_rfl
theorem rr_6_1 (ns : List Int) (a b : Int) : rr ns a b ["ask", "as", "bid", "cut"] 1 = true := by kernel_rfl
theorem rr_6_2 (ns : List Int) (a b : Int) : rr ns a b ["ask", "as", "bid", "cut"] 2 = true := by kernel_rfl
theorem rr_6_3 (ns : List Int) (a b : Int) : rr ns a b ["ask", "as", "bid", "cut"] 3 = true := by kernel_rfl
theorem rr_6_4 (ns : List Int) (a b : Int) : rr ns a b ["ask", "as", "bid", "cut"] 4 = true := by kernel_rfl
theorem od_7 (ns : List Int) : od ns ["cut", "bid", "as", "ask"] = true := by kernel_rfl
theorem e8_7 (ns : List Int) : made8 ns ["cut", "bid", "as", "ask"] = true := by kernel_rfl
theorem rr_7_0 (ns : List Int) (a b : Int) : rr ns a b ["cut", "bid", "as", "ask"] 0 = true := by kernel_rfl
theorem rr_7_1 (ns : List Int) (a b : Int) : rr ns a b ["cut", "bid", "as", "ask"] 1 = true := by kernel_rfl
theorem rr_7_2 (ns : List Int) (a b : Int) : rr ns a b ["cut", "bid", "as", "ask"] 2 = true := by kernel_rfl
theorem rr_7_3 (ns : List Int) (a b : Int) : rr ns a b ["cut", "bid", "as", "ask"] 3 = true := by kernel_rfl
theorem rr_7_4 (ns : List Int) (a b : Int) : rr ns a b ["cut", "bid", "as", "ask"] 4 = true := by kernel_rfl
theorem od_8 (ns : List Int) : od ns ["ask", "as", "bid", "cut", "dig"] = true := by kernel_rfl
theorem e8_8 (ns : List Int) : made8 ns ["ask", "as", "bid", "cut", "dig"] = true := by kernel_rfl
theorem rr_8_0 (ns : List Int) (a b : Int) : rr ns a b ["ask", "as", "bid", "cut", "dig"] 0 = true := by kernel_rfl
theorem rr_8_1 (ns : List Int) (a b : Int) : rr ns a b ["ask", "as", "bid", "cut", "dig"] 1 = true := by kernel_rfl
theorem rr_8_2 (ns : List Int) (a b : Int) : rr ns a b ["ask", "as", "bid", "cut", "dig"] 2 = true := by kernel_rfl
theorem rr_8_3 (ns : List Int) (a b : Int) : rr ns a b ["ask", "as", "bid", "cut", "dig"] 3 = true := by kernel_rfl
theorem rr_8_4 (ns : List Int) (a b : Int) : rr ns a b ["ask", "as", "bid", "cut", "dig"] 4 = true := by kernel_rfl
theorem rr_8_5 (ns : List Int) (a b : Int) : rr ns a b ["ask", "as", "bid", "cut", "dig"] 5 = true := by kernel_rfl
theorem od_9 (ns : List Int) : od ns ["dig", "cut", "bid", "as", "ask"] = true := by kernel_rfl
theorem e8_9 (ns : List Int) : made8 ns ["dig", "cut", "bid", "as", "ask"] = true := by kernel_rfl
theorem rr_9_0 (ns : List Int) (a b : Int) : rr ns a b ["dig", "cut", "bid", "as", "ask"] 0 = true := by kernel_rfl
theorem rr_9_1 (ns : List Int) (a b : Int) : rr ns a b ["dig", "cut", "bid", "as", "ask"] 1 = true := by kernel_rfl
theorem rr_9_2 (ns : List Int) (a b : Int) : rr ns a b ["dig", "cut", "bid", "as", "ask"] 2 = true := by kernel_rfl
theorem rr_9_3 (ns : List Int) (a b : Int) : rr ns a b ["dig", "cut", "bid", "as", "ask"] 3 = true := by kernel_rfl
theorem rr_9_4 (ns : List Int) (a b : Int) : rr ns a b ["dig", "cut", "bid", "as", "ask"] 4 = true := by kernel_rfl
theorem rr_9_5 (ns : List Int) (a b : Int) : rr ns a b ["dig", "cut", "bid", "as", "ask"] 5 = true := by kernel_rfl
end Law

set_option Elab.async false
set_option linter.all false
set_option maxRecDepth 1000000
set_option maxHeartbeats 0
namespace Law
open PySem PySem.Spec PyProof.Rows L2 Vm
theorem all_st {p : List Str → Prop} (h0 : p ["ask"]) (h1 : p ["ask"]) (h2 : p ["ask", "as"]) (h3 : p ["as", "ask"]) (h4 : p ["ask", "as", "bid"]) (h5 : p ["bid", "as", "ask"]) (h6 : p ["ask", "as", "bid", "cut"]) (h7 : p ["cut", "bid", "as", "ask"]) (h8 : p ["ask", "as", "bid", "cut", "dig"]) (h9 : p ["dig", "cut", "bid", "as", "ask"]) : ∀ st ∈ allSteps, p st := by
  intro st h
  have e : allSteps = ([["ask"], ["ask"], ["ask", "as"], ["as", "ask"], ["ask", "as", "bid"], ["bid", "as", "ask"], ["ask", "as", "bid", "cut"], ["cut", "bid", "as", "ask"], ["ask", "as", "bid", "cut", "dig"], ["dig", "cut", "bid", "as", "ask"]] : List (List Str)) := by kernel_rfl
  rw [e] at h
  simp only [List.mem_cons, List.not_mem_nil, or_false] at h
  rcases h with rfl | rfl | rfl | rfl | rfl | rfl | rfl | rfl | rfl | rfl <;> assumption
theorem od_at (ns : List Int) : ∀ st ∈ allSteps, od ns st = true := all_st (od_0 ns) (od_1 ns) (od_2 ns) (od_3 ns) (od_4 ns) (od_5 ns) (od_6 ns) (od_7 ns) (od_8 ns) (od_9 ns)
theorem e8_at (ns : List Int) : ∀ st ∈ allSteps, made8 ns st = true := all_st (e8_0 ns) (e8_1 ns) (e8_2 ns) (e8_3 ns) (e8_4 ns) (e8_5 ns) (e8_6 ns) (e8_7 ns) (e8_8 ns) (e8_9 ns)
theorem rr_at (ns : List Int) (a b : Int) : ∀ st ∈ allSteps, ∀ i, i ≤ st.length → rr ns a b st i = true := all_st
  (fun i h => match i, h with
    | 0, _ => rr_0_0 ns a b
    | 1, _ => rr_0_1 ns a b
    | n + 2, h => absurd h (by show ¬ (n + 2 ≤ 1); omega))
  (fun i h => match i, h with
    | 0, _ => rr_1_0 ns a b
    | 1, _ => rr_1_1 ns a b
    | n + 2, h => absurd h (by show ¬ (n + 2 ≤ 1); omega))
  (fun i h => match i, h with
    | 0, _ => rr_2_0 ns a b
    | 1, _ => rr_2_1 ns a b
    | 2, _ => rr_2_2 ns a b
    | n + 3, h => absurd h (by show ¬ (n + 3 ≤ 2); omega))
  (fun i h => match i, h with
    | 0, _ => rr_3_0 ns a b
    | 1, _ => rr_3_1 ns a b
    | 2, _ => rr_3_2 ns a b
    | n + 3, h => absurd h (by show ¬ (n + 3 ≤ 2); omega))
  (fun i h => match i, h with
    | 0, _ => rr_4_0 ns a b
    | 1, _ => rr_4_1 ns a b
    | 2, _ => rr_4_2 ns a b
    | 3, _ => rr_4_3 ns a b
    | n + 4, h => absurd h (by show ¬ (n + 4 ≤ 3); omega))
  (fun i h => match i, h with
    | 0, _ => rr_5_0 ns a b
    | 1, _ => rr_5_1 ns a b
    | 2, _ => rr_5_2 ns a b
    | 3, _ => rr_5_3 ns a b
    | n + 4, h => absurd h (by show ¬ (n + 4 ≤ 3); omega))
  (fun i h => match i, h with
    | 0, _ => rr_6_0 ns a b
    | 1, _ => rr_6_1 ns a b
    | 2, _ => rr_6_2 ns a b
    | 3, _ => rr_6_3 ns a b
    | 4, _ => rr_6_4 ns a b
    | n + 5, h => absurd h (by show ¬ (n + 5 ≤ 4); omega))
  (fun i h => match i, h with
    | 0, _ => rr_7_0 ns a b
    | 1, _ => rr_7_1 ns a b
    | 2, _ => rr_7_2 ns a b
    | 3, _ => rr_7_3 ns a b
    | 4, _ => rr_7_4 ns a b
    | n + 5, h => absurd h (by show ¬ (n + 5 ≤ 4); omega))
  (fun i h => match i, h with
    | 0, _ => rr_8_0 ns a b
    | 1, _ => rr_8_1 ns a b
    | 2, _ => rr_8_2 ns a b
    | 3, _ => rr_8_3 ns a b
    | 4, _ => rr_8_4 ns a b
    | 5, _ => rr_8_5 ns a b
    | n + 6, h => absurd h (by show ¬ (n + 6 ≤ 5); omega))
  (fun i h => match i, h with
    | 0, _ => rr_9_0 ns a b
    | 1, _ => rr_9_1 ns a b
    | 2, _ => rr_9_2 ns a b
    | 3, _ => rr_9_3 ns a b
    | 4, _ => rr_9_4 ns a b
    | 5, _ => rr_9_5 ns a b
    | n + 6, h => absurd h (by show ¬ (n + 6 ≤ 5); omega))
end Law

set_option Elab.async false
set_option linter.all false
set_option maxRecDepth 100000
set_option maxHeartbeats 4100000
namespace Law
open PySem PySem.Spec PyProof.Rows L2 Vm
section
variable {steps : List Str} {ps : List Pn}
theorem atI_at {α : Type} {xs : List α} {i : Nat} (h : i < xs.length) : atI xs (i : Nat) = some xs[i] := by
  have z1 : ixN xs.length (i : Int) = some i := by
    simp [slotsOf, sSeq, sIf, sAsg, sRet, sRetN, sE, sPut, Vm.putIn, bV, bNot, bAnd, bOr, m2, m1, mV, mC, mBt, mCall, lC, lN, R.bind, R.bindS, fIxD, seqOf, fGt, fLt, fLe, fGe, fSub, fMod, fDiv, fPow, fI, asB, fInt, gtN, pureO, pureU, outM, outU, fMulE, fMulD, fAddD, sPass, fAbs, fMax2, fMin2, mIf, mL, newO, fLenD, P0.at, pdOf, ixN]
    omega
  unfold atI
  rw [z1]
  simp [slotsOf, sSeq, sIf, sAsg, sRet, sRetN, sE, sPut, Vm.putIn, bV, bNot, bAnd, bOr, m2, m1, mV, mC, mBt, mCall, lC, lN, R.bind, R.bindS, fIxD, seqOf, fGt, fLt, fLe, fGe, fSub, fMod, fDiv, fPow, fI, asB, fInt, gtN, pureO, pureU, outM, outU, fMulE, fMulD, fAddD, sPass, fAbs, fMax2, fMin2, mIf, mL, newO, fLenD, P0.at, pdOf, List.getElem?_eq_getElem h]
theorem ix_list (ns : List Int) {ds : List PyData} {i : Nat} (h : i < ds.length) (H : Mh) : fIxD ns (.dat (.list ds)) (.int (i : Nat)) H = .ok (ofPd ds[i]) H := by
  have z := atI_at (xs := ds.map ofPd) (i := i) (by rw [List.length_map]; exact h)
  show (match atI (ds.map ofPd) (i : Nat) with
    | some u => R.ok u H
    | none => .stuck) = _
  rw [z]
  simp
def BVs : List PyData := [.none, .str "q", .str "", .int 0, .list [.str "cid"], .tuple [.str "cid"], .str "Cid", .bool true, .str "nostep", .str "red", .str "seaports"]
def selfB (d : PyData) : Bool := SeqAt.shaped d && PyData.eqv d d
def bvB (v : PyData) : Bool := SeqAt.shaped v && (!v.hasDict && v.showable && decide (v.shown.length ≤ 100000) && decide (v.depth ≤ 60)) && (S6 ++ F8).all (fun x => !PyData.eqv (.str x) v) && selfB (pT v) && selfB (.list (dueL v lT)) && selfB (.list (dueL v .none)) && selfB (.list (dueL v (pT (.str "cid"))))
theorem bvs_ok : BVs.all bvB = true := by kernel_rfl
structure Bv (v : PyData) : Prop where
  so : SeqAt.shaped v = true
  rp : Rp v
  ne : ∀ x ∈ S6 ++ F8, PyData.eqv (.str x) v = false
  p : selfB (pT v) = true
  d1 : selfB (.list (dueL v lT)) = true
  d2 : selfB (.list (dueL v .none)) = true
  d3 : selfB (.list (dueL v (pT (.str "cid")))) = true
theorem bv_at {v : PyData} (h : v ∈ BVs) : Bv v := by
  have q := List.all_eq_true.mp bvs_ok v h
  unfold bvB at q
  rw [Bool.and_eq_true, Bool.and_eq_true, Bool.and_eq_true, Bool.and_eq_true, Bool.and_eq_true, Bool.and_eq_true] at q
  obtain ⟨⟨⟨⟨⟨⟨h1, h2⟩, h3⟩, h4⟩, h5⟩, h6⟩, h7⟩ := q
  refine ⟨h1, h2, fun x hx => ?_, h4, h5, h6, h7⟩
  have := List.all_eq_true.mp h3 x hx
  simpa using this
theorem self_at {d : PyData} (k : selfB d = true) (h : Mh) : fNe (.dat d) (.dat d) h = .ok (.bl false) h := by
  unfold selfB at k
  rw [Bool.and_eq_true] at k
  simp only [fNe, fEqB, rd_dat, k.1, Bool.and_self, if_true, k.2, Bool.not_true]
/-- names of a drawn staff -/
structure Dr (steps : List Str) (ps : List Pn) : Prop where
  ok : StOk steps ps
  st : steps ∈ allSteps
  s6 : ∀ x ∈ steps, x ∈ S6 ++ F8
  f8 : ∀ p ∈ ps, p.1 ∈ S6 ++ F8
  f9 : ∀ p ∈ ps, p.1 ∈ F8
  pl : ps.length ≤ 7
theorem dr_of (d : Drawn 5 7 steps ps) : Dr steps ps := by
  refine ⟨drawn_ok d (by decide) (by decide), steps_all d, ?_, ?_, ?_, ?_⟩
  · obtain ⟨k, _, _, ks⟩ := d.st
    rcases ks with rfl | rfl
    · exact fun x hx => List.mem_append_left _ (List.mem_of_mem_take hx)
    · exact fun x hx => List.mem_append_left _ (List.mem_of_mem_take (List.mem_reverse.mp hx))
  · obtain ⟨j, _, js⟩ := d.fk
    intro p hp
    have : p.1 ∈ F8.take j := by
      rw [← js]
      exact List.mem_map.mpr ⟨p, hp, rfl⟩
    exact List.mem_append_right _ (List.mem_of_mem_take this)
  · obtain ⟨j, _, js⟩ := d.fk
    intro p hp
    have : p.1 ∈ F8.take j := by
      rw [← js]
      exact List.mem_map.mpr ⟨p, hp, rfl⟩
    exact List.mem_of_mem_take this
  · obtain ⟨j, j1, js⟩ := d.fk
    have := congrArg List.length js
    rw [List.length_map, List.length_take] at this
    omega
variable {v : PyData}
theorem Bv.nn (b : Bv v) (d : Dr steps ps) : ∀ p ∈ ps, PyData.eqv (.str p.1) v = false := fun p hp => b.ne _ (d.f8 p hp)
theorem Bv.ns (b : Bv v) (d : Dr steps ps) : ∀ x ∈ steps, PyData.eqv (.str x) v = false := fun x hx => b.ne _ (d.s6 x hx)
theorem ask0 (ns : List Int) (d : Dr steps ps) (b : Bv v) (o : PyData) : p_law_asked ns [staffU steps ps, .int 0, ofPd v, ofPd o] = .ok (.dat (pT v)) := ask_person ns b.rp (ch0 ns (group_no ns d.ok b.so (b.nn d)))
theorem ask1 (ns : List Int) (d : Dr steps ps) (b : Bv v) (o : PyData) : p_law_asked ns [staffU steps ps, .int 1, ofPd v, ofPd o] = .ok (.dat (pT v)) := ask_person ns b.rp (ch1 ns (list_no ns d.ok b.so (b.nn d)))
theorem ask2 (ns : List Int) (d : Dr steps ps) (b : Bv v) (o : PyData) : p_law_asked ns [staffU steps ps, .int 2, ofPd v, ofPd o] = .ok (.dat (sT v)) := ask_step ns b.rp (ch2 ns (able_no ns d.ok b.so (b.ns d)))
theorem ask4 (ns : List Int) (d : Dr steps ps) (b : Bv v) (o : PyData) : p_law_asked ns [staffU steps ps, .int 4, ofPd v, ofPd o] = .ok (.dat (sT v)) := ask_step ns b.rp (ch4 ns (only_step ns d.ok b.so (b.ns d)))
theorem ask3n (ns : List Int) (b : Bv v) (hv : ∀ l, v ≠ .list l) (o : PyData) : p_law_asked ns [staffU steps ps, .int 3, ofPd v, ofPd o] = .ok (.dat lT) := ask_list ns (ch3 ns (without_no ns b.so hv))
theorem rp_cid : Rp (.str "cid") := by kernel_rfl
theorem ask3c (ns : List Int) (d : Dr steps ps) (o : PyData) : p_law_asked ns [staffU steps ps, .int 3, .dat (.list [.str "cid"]), ofPd o] = .ok (ofPd (if ("cid" : Str) ∈ ps.map (·.1) then .none else pT (.str "cid"))) := by
  by_cases hm : ("cid" : Str) ∈ ps.map (·.1)
  · rw [if_pos hm]
    obtain ⟨fs, _, q⟩ := without_one ns d.ok hm
    exact ask_none (v := .list [.str "cid"]) ns (ch3n ns q)
  · rw [if_neg hm]
    have hn : ∀ p ∈ ps, PyData.eqv (.str p.1) (.str "cid") = false := fun p hp => by
      rw [eqv_str]
      exact decide_eq_false fun e => hm (List.mem_map.mpr ⟨p, hp, e⟩)
    have ok : Ok "cid" := by decide +kernel
    exact ask_person (v := .list [.str "cid"]) ns rp_cid (ch3 ns (without_bad ns d.ok (Lf.str ok).shaped hn (l := []) (fun x hx => nomatch hx) (by decide) [] (by decide)))
def ask1B (ns : List Int) : Ms := sIf (bOr (bV (m2 fNe (mV 12) (mV 13))) (bV (m2 fNe (mCall (d_law_asked ns)  (lC (mV 7) (lC (mC (.int 4)) (lC (m2 (fIxD ns) (mV 8) (mC (.int 0))) (lC (mV 5) (lN)))))) (mTd (lC (mC (.str "person")) (lC (mBt (fRepr) (lC (mV 5) (lN))) (lN))))))) (sRet (mC (.bl false))) (sPass)
def ask2B (ns : List Int) : Ms := sIf (bV (m2 fNe (mCall (d_law_asked ns)  (lC (mV 7) (lC (mC (.int 3)) (lC (m2 fAddD (mLcF (wSeq (mV 9)) (gtN 14) (bYes) (m2 (fIxD ns) (mV 14) (mC (.int 0))) [14]) (mLd (lC (mV 5) (lC (mC .non) (lN))))) (lC (mC (.int 0)) (lN)))))) (mTd (lC (mC (.str "person")) (lC (mBt (fRepr) (lC (mV 5) (lN))) (lN)))))) (sRet (mC (.bl false))) (sPass)
def askB (ns : List Int) : Ms := sSeq (sAsg (mLcF (wR1 (lC (mC (.int 5)) (lN))) (gtN 16) (bYes) (mCall (d_law_asked ns)  (lC (mV 7) (lC (mV 16) (lC (mV 5) (lC (mV 5) (lN)))))) [16]) (gtN 12))
    (sSeq (due1)
    (sSeq (due2)
    (sSeq (due3 ns)
    (sSeq (sFrz 13) (sSeq (ask1B ns)
    (ask2B ns))))))
variable {s0 s1 s2 s3 s4 s6 s10 s11 x12 x13 x14 s15 x16 : Option U} {h : Mh}
theorem pt_at (b : Bv v) {D : PyData} : (mTd (lC (mC (.str "person")) (lC (mBt (fRepr) (lC (mV 5) (lN))) (lN)))) (askT steps ps s0 s1 s2 s3 s4 v s6 s10 s11 x12 x13 x14 s15 x16) h = .ok (.dat (pT v)) h := by
  simp only [mTd, lC, mC, mBt, lN, mV, askT, R.bind, List.getElem?_cons_zero, List.getElem?_cons_succ, repr_of b.rp h]
  rfl
theorem ask1B_at (ns : List Int) (d : Dr steps ps) (b : Bv v) {l : List PyData} (k : selfB (.list l) = true) : ask1B ns (askT steps ps s0 s1 s2 s3 s4 v s6 s10 s11 (some (.dat (.list l))) (some (.dat (.list l))) x14 s15 x16) h = .nx (askT steps ps s0 s1 s2 s3 s4 v s6 s10 s11 (some (.dat (.list l))) (some (.dat (.list l))) x14 s15 x16) h := by
  obtain ⟨x0, r, rfl⟩ : ∃ x0 r, steps = x0 :: r := by
    cases steps with
    | nil => exact absurd d.ok.s0 (by decide)
    | cons x0 r => exact ⟨x0, r, rfl⟩
  have i0 : ∀ h, fIxD ns (.dat (.list (eS (x0 :: r)))) (.int 0) h = .ok (.str x0) h := fun h => ix_list ns (ds := eS (x0 :: r)) (i := 0) (by simp) h
  have q : d_law_asked ns [staffU (x0 :: r) ps, .int 4, .str x0, ofPd v] h = .ok (.dat (pT v)) h := runP_ok (ask_person (v := .str x0) (o := v) ns b.rp (ch4 ns (only_person ns d.ok (.head _) b.so (b.nn d)))) h
  have c1 : bV (m2 fNe (mV 12) (mV 13)) (askT (x0 :: r) ps s0 s1 s2 s3 s4 v s6 s10 s11 (some (.dat (.list l))) (some (.dat (.list l))) x14 s15 x16) h = .ok false h := by
    simp only [bV, m2, mV, askT, List.getElem?_cons_zero, List.getElem?_cons_succ, R.bind, self_at k, asB]
  have c2 : mCall (d_law_asked ns)  (lC (mV 7) (lC (mC (.int 4)) (lC (m2 (fIxD ns) (mV 8) (mC (.int 0))) (lC (mV 5) (lN))))) (askT (x0 :: r) ps s0 s1 s2 s3 s4 v s6 s10 s11 (some (.dat (.list l))) (some (.dat (.list l))) x14 s15 x16) h = .ok (.dat (pT v)) h := by
    simp only [mCall, lC, m2, mV, mC, lN, askT, List.getElem?_cons_zero, List.getElem?_cons_succ, R.bind, i0, q]
  have t := pt_at (steps := x0 :: r) (ps := ps) (s0 := s0) (s1 := s1) (s2 := s2) (s3 := s3) (s4 := s4) (s6 := s6) (s10 := s10) (s11 := s11) (x12 := some (.dat (.list l))) (x13 := some (.dat (.list l))) (x14 := x14) (s15 := s15) (x16 := x16) (h := h) b (D := .none)
  rw [ask1B, sIf, bOr, c1]
  simp only [R.bind]
  rw [bV, m2, c2]
  simp only [R.bind, t, self_at b.p, asB, R.bindS, sPass]
theorem ask2B_at (ns : List Int) (d : Dr steps ps) (b : Bv v) : ask2B ns (askT steps ps s0 s1 s2 s3 s4 v s6 s10 s11 x12 x13 x14 s15 x16) h = .nx (askT steps ps s0 s1 s2 s3 s4 v s6 s10 s11 x12 x13 x14 s15 x16) h := by
  have hl := d.pl
  have c := mLcF_yes (m := wSeq (mV 9)) (t := gtN 14) (e := m2 (fIxD ns) (mV 14) (mC (.int 0))) (vs := [14]) (s := askT steps ps s0 s1 s2 s3 s4 v s6 s10 s11 x12 x13 x14 s15 x16) (h := h) (us := (ps.map eP).map ofPd)
    (fe := fun u => match u with | .dat (.tuple [.str a, _, _]) => .str a | _ => .none) rfl (by rw [List.length_map, List.length_map]; unfold lim; omega) (fun x hx => by
      obtain ⟨p, hp, rfl⟩ := mem_eP hx
      exact ⟨_, rfl, rfl⟩)
  have z : ((ps.map eP).map ofPd).map (fun u => match u with | .dat (.tuple [.str a, _, _]) => PyData.str a | _ => .none) = eS (ps.map (·.1)) := by
    rw [List.map_map, List.map_map, eS, List.map_map]
    rfl
  rw [z] at c
  have c2 : mLd (lC (mV 5) (lC (mC .non) (lN))) (askT steps ps s0 s1 s2 s3 s4 v s6 s10 s11 x12 x13 x14 s15 x16) h = .ok (.dat (.list [v, .none])) h := by
    have := newL_of [v, .none] h
    simp only [mLd, lC, mV, mC, lN, askT, List.getElem?_cons_zero, List.getElem?_cons_succ, R.bind]
    rw [if_pos (by rfl)]
    exact this
  have c3 : fAddD (.dat (.list (eS (ps.map (·.1))))) (.dat (.list [v, .none])) h = .ok (.dat (.list (eS (ps.map (·.1)) ++ [v, .none]))) h := fAddD_list _ _ h (by rw [List.length_map, List.length_map]; show ps.length + 2 ≤ _; omega)
  have q : d_law_asked ns [staffU steps ps, .int 3, .dat (.list (eS (ps.map (·.1)) ++ [v, .none])), .int 0] h = .ok (.dat (pT v)) h :=
    runP_ok (ask_person (v := .list (eS (ps.map (·.1)) ++ [v, .none])) (o := .int 0) ns b.rp (ch3 ns (without_bad ns d.ok b.so (b.nn d) (l := ps.map (·.1)) (fun x hx => hx) (by rw [List.length_map]; omega) [.none] (by decide)))) h
  have c5 : m2 fAddD (mLcF (wSeq (mV 9)) (gtN 14) (bYes) (m2 (fIxD ns) (mV 14) (mC (.int 0))) [14]) (mLd (lC (mV 5) (lC (mC .non) (lN)))) (askT steps ps s0 s1 s2 s3 s4 v s6 s10 s11 x12 x13 x14 s15 x16) h = .ok (.dat (.list (eS (ps.map (·.1)) ++ [v, .none]))) h := by
    rw [m2, c]
    simp only [R.bind, c2, c3]
  have c4 : mCall (d_law_asked ns)  (lC (mV 7) (lC (mC (.int 3)) (lC (m2 fAddD (mLcF (wSeq (mV 9)) (gtN 14) (bYes) (m2 (fIxD ns) (mV 14) (mC (.int 0))) [14]) (mLd (lC (mV 5) (lC (mC .non) (lN))))) (lC (mC (.int 0)) (lN))))) (askT steps ps s0 s1 s2 s3 s4 v s6 s10 s11 x12 x13 x14 s15 x16) h = .ok (.dat (pT v)) h := by
    rw [mCall, lC]
    rw [show mV 7 (askT steps ps s0 s1 s2 s3 s4 v s6 s10 s11 x12 x13 x14 s15 x16) h = .ok (staffU steps ps) h from rfl]
    simp only [R.bind, lC, mC, lN]
    rw [c5]
    exact q
  have t := pt_at (steps := steps) (ps := ps) (s0 := s0) (s1 := s1) (s2 := s2) (s3 := s3) (s4 := s4) (s6 := s6) (s10 := s10) (s11 := s11) (x12 := x12) (x13 := x13) (x14 := x14) (s15 := s15) (x16 := x16) (h := h) b (D := .none)
  rw [ask2B, sIf, bV, m2, c4]
  simp only [R.bind, t, self_at b.p, asB, R.bindS, sPass]
theorem ask_at (ns : List Int) (d : Dr steps ps) (hv : v ∈ BVs) : ∃ y12 y13 h', askB ns (askT steps ps s0 s1 s2 s3 s4 v s6 s10 s11 x12 x13 x14 s15 x16) h = .nx (askT steps ps s0 s1 s2 s3 s4 v s6 s10 s11 y12 y13 x14 s15 x16) h' := by
  have b := bv_at hv
  have fin : ∀ (X : PyData) (h' : Mh), selfB (.list (dueL v X)) = true → (∀ i : Int, 0 ≤ i → i < 5 → p_law_asked ns [staffU steps ps, .int i, ofPd v, ofPd v] = .ok (ofPd (tol v X i))) →
      due3 ns (askT steps ps s0 s1 s2 s3 s4 v s6 s10 s11 (some (.dat (.list (dueL v X)))) (some (.loc (h.length + 1))) x14 s15 x16) (h ++ [.lst [.dat (pT v), .dat (pT v), .dat (sT v)], .lst [.dat (pT v), .dat (pT v), .dat (sT v), .dat lT, .dat (sT v)]])
        = .nx (askT steps ps s0 s1 s2 s3 s4 v s6 s10 s11 (some (.dat (.list (dueL v X)))) (some (.loc (h.length + 1))) x14 s15 x16) (h ++ [.lst [.dat (pT v), .dat (pT v), .dat (sT v)], .lst ((dueL v X).map ofPd)]) →
      ∃ y12 y13 h', askB ns (askT steps ps s0 s1 s2 s3 s4 v s6 s10 s11 x12 x13 x14 s15 x16) h = .nx (askT steps ps s0 s1 s2 s3 s4 v s6 s10 s11 y12 y13 x14 s15 x16) h' := fun X _ sb aa d3 => by
    refine ⟨some (.dat (.list (dueL v X))), some (.dat (.list (dueL v X))), h ++ [.lst [.dat (pT v), .dat (pT v), .dat (sT v)], .ded], ?_⟩
    unfold askB
    rw [sSeq, told_at ns aa]
    simp only
    rw [sSeq, due1_at b.rp]
    simp only
    rw [sSeq, due2_at b.rp]
    simp only
    rw [sSeq, d3]
    simp only
    rw [sSeq, frz_at]
    simp only
    rw [sSeq, ask1B_at ns d b sb]
    simp only
    rw [ask2B_at ns d b]
  have five : ∀ X : PyData, p_law_asked ns [staffU steps ps, .int 3, ofPd v, ofPd v] = .ok (ofPd X) → ∀ i : Int, 0 ≤ i → i < 5 → p_law_asked ns [staffU steps ps, .int i, ofPd v, ofPd v] = .ok (ofPd (tol v X i)) := fun X hX i h0 h5 => by
    obtain rfl | rfl | rfl | rfl | rfl : i = 0 ∨ i = 1 ∨ i = 2 ∨ i = 3 ∨ i = 4 := by omega
    · exact ask0 ns d b v
    · exact ask1 ns d b v
    · exact ask2 ns d b v
    · exact hX
    · exact ask4 ns d b v
  by_cases hL : ∃ l, v = .list l
  · have : v = .list [.str "cid"] := by
      obtain ⟨l, rfl⟩ := hL
      unfold BVs at hv
      simpa using hv
    subst this
    have ok : Ok "cid" := by decide +kernel
    refine fin _ h ?_ (five _ (ask3c ns d _)) (due3_list ns d.ok ok rp_cid)
    by_cases hm : ("cid" : Str) ∈ ps.map (·.1)
    · rw [if_pos hm]; exact b.d2
    · rw [if_neg hm]; exact b.d3
  · have hn : ∀ l, v ≠ .list l := fun l e => hL ⟨l, e⟩
    exact fin lT h b.d1 (five lT (ask3n ns b hn v)) (due3_no ns b.so hn)
end
end Law

set_option Elab.async false
set_option linter.all false
set_option maxRecDepth 100000
set_option maxHeartbeats 4100000
namespace Law
open PySem PySem.Spec PyProof.Rows L2 Vm
section
variable {steps : List Str} {ps : List Pn}
theorem cutU_map {α β : Type} (f : α → β) (xs : List α) (lo hi : Option Int) : cutU (xs.map f) lo hi = (cutU xs lo hi).map f := by
  unfold cutU
  rw [List.length_map, List.map_take, List.map_drop]
theorem fSlD_list (a : List PyData) (lo hi : Option Int) (h : Mh) : fSlD (.dat (.list a)) lo hi h = .ok (.dat (.list (cutU a lo hi))) h := by
  show newL (cutU (a.map ofPd) lo hi) h = _
  rw [cutU_map]
  exact newL_of _ _
theorem cut_lo {α : Type} (xs : List α) (k : Int) (h : 0 ≤ k) : cutU xs (some k) none = xs.drop k.toNat := by
  unfold cutU
  have e1 : HT.sIx xs.length xs.length none = xs.length := rfl
  have e0 : HT.sIx xs.length 0 (some k) = min k.toNat xs.length := by
    show (if k < 0 then (k + (xs.length : Int)).toNat else min k.toNat xs.length) = min k.toNat xs.length
    rw [if_neg (by omega)]
  rw [e0, e1]
  by_cases hk : k.toNat ≤ xs.length
  · rw [Nat.min_eq_left hk, List.take_of_length_le (by rw [List.length_drop]; omega)]
  · rw [Nat.min_eq_right (by omega), List.drop_length, List.drop_of_length_le (by omega)]
    simp
theorem cut_mem {α : Type} {xs : List α} {lo hi : Option Int} {x : α} (h : x ∈ cutU xs lo hi) : x ∈ xs := List.mem_of_mem_drop (List.mem_of_mem_take h)
theorem cut_len {α : Type} (xs : List α) (lo hi : Option Int) : (cutU xs lo hi).length ≤ xs.length := by
  unfold cutU
  simp only [List.length_take, List.length_drop]
  omega
theorem ns_sk : ∀ x ∈ NS, Sk 12 0 (.str x) := by
  have : ∀ x ∈ NS, PyData.strOk (reprText x) = true ∧ PyData.strOk x = true ∧ (reprText x).length ≤ 12 := by decide +kernel
  exact fun x hx => ⟨(this x hx).1, (this x hx).2.1, rfl, (this x hx).2.2, Nat.le_refl _⟩
theorem person_sk {p : Pn} (h1 : Sk 12 0 (.str p.1)) (h2 : Sk 12 0 (.str p.2.1)) (h3 : ∀ x ∈ p.2.2, x ∈ NS) (hl : p.2.2.length ≤ 6) : Sk 400 4 (eP p) := by
  have a : Sk (6 * (12 + 2) + 3) (0 + 1) (.tuple (eS p.2.2)) := Sk.tuple (fun d hd => by
    obtain ⟨x, hx, rfl⟩ := List.mem_map.mp hd
    exact ns_sk x (h3 x hx)) (by rw [List.length_map]; exact hl)
  have b : Sk (3 * ((6 * (12 + 2) + 3) + 2) + 3) (0 + 1 + 1) (eP p) := Sk.tuple (m := 3) (fun d hd => by
    rcases (by simpa using hd : d = .str p.1 ∨ d = .str p.2.1 ∨ d = .tuple (eS p.2.2)) with rfl | rfl | rfl
    · exact h1.mono (by omega) (by omega)
    · exact h2.mono (by omega) (by omega)
    · exact a) (Nat.le_refl 3)
  exact b.mono (by decide) (by decide)
theorem ps_sk (k : StOk steps ps) {p : Pn} (hp : p ∈ ps) : Sk 400 4 (eP p) := by
  obtain ⟨h1, h2, h3, h4, h5⟩ := k.pns p hp
  have := k.s1
  exact person_sk (ns_sk _ h1) (ns_sk _ h2) (fun x hx => k.sns x (h3 x hx)) (by omega)
def wrongB (ns : List Int) : Ms := sSeq (sAsg (m2 fAddD (m2 fAddD (m2 fAddD (mSlD (mV 9) (oN) (oS (mV 3))) (mLd (lC (mV 5) (lN)))) (mSlD (mV 9) (oS (mV 3)) (oN))) (mLd (lC (mC .non) (lN)))) (gtN 10))
    (sSeq (sAsg (mBt (fRepr) (lC (mV 10) (lN))) (gtN 11))
    (sIf (bOr (bV (m2 fNe (mCall (d_law_made ns)  (lC (mBt (fLstD) (lC (mV 8) (lN))) (lC (mV 10) (lN)))) (mTd (lC (mC (.str "person")) (lC (mV 3) (lN)))))) (bV (m2 fNe (mBt (fRepr) (lC (mV 10) (lN))) (mV 11)))) (sRet (mC (.bl false))) (sPass)))
abbrev wrL (ps : List Pn) (j : Nat) (bad : PyData) : List PyData := (((ps.map eP).take j ++ [bad]) ++ (ps.map eP).drop j) ++ [.none]
theorem wr_eq (j : Nat) (bad : PyData) : wrL ps j bad = (ps.take j).map eP ++ bad :: ((ps.drop j).map eP ++ [.none]) := by
  simp [wrL, List.map_take, List.map_drop]
abbrev wrT (steps : List Str) (ps : List Pn) (s0 s1 s2 : Option U) (j : Nat) (s4 x5 s6 s7 x10 x11 s12 s13 s14 s15 s16 : Option U) : Sl :=
  [s0, s1, s2, some (.int (j : Nat)), s4, x5, s6, s7, some (.dat (.list (eS steps))), some (.dat (.list (ps.map eP))), x10, x11, s12, s13, s14, s15, s16]
variable {s0 s1 s2 s4 x5 s6 s7 x10 x11 s12 s13 s14 s15 s16 : Option U} {h : Mh} {j : Nat} {bad : PyData}
theorem wr1_at (hj : j ≤ ps.length) (hp : ps.length ≤ 7) : sAsg (m2 fAddD (m2 fAddD (m2 fAddD (mSlD (mV 9) (oN) (oS (mV 3))) (mLd (lC (mV 5) (lN)))) (mSlD (mV 9) (oS (mV 3)) (oN))) (mLd (lC (mC .non) (lN)))) (gtN 10) (wrT steps ps s0 s1 s2 j s4 (some (ofPd bad)) s6 s7 x10 x11 s12 s13 s14 s15 s16) h
    = .nx (wrT steps ps s0 s1 s2 j s4 (some (ofPd bad)) s6 s7 (some (.dat (.list (wrL ps j bad)))) x11 s12 s13 s14 s15 s16) h := by
  let S := wrT steps ps s0 s1 s2 j s4 (some (ofPd bad)) s6 s7 x10 x11 s12 s13 s14 s15 s16
  have a1 : mSlD (mV 9) (oN) (oS (mV 3)) S h = .ok (.dat (.list ((ps.map eP).take j))) h := by
    show fSlD (.dat (.list (ps.map eP))) none (some (j : Int)) h = _
    rw [fSlD_list, cut_hi _ _ (by omega)]
    rfl
  have a2 : mSlD (mV 9) (oS (mV 3)) (oN) S h = .ok (.dat (.list ((ps.map eP).drop j))) h := by
    show fSlD (.dat (.list (ps.map eP))) (some (j : Int)) none h = _
    rw [fSlD_list, cut_lo _ _ (by omega)]
    rfl
  have a3 : mLd (lC (mV 5) (lN)) S h = .ok (.dat (.list [bad])) h := newL_of [bad] h
  have a4 : mLd (lC (mC .non) (lN)) S h = .ok (.dat (.list [.none])) h := rfl
  have l1 : ((ps.map eP).take j).length ≤ 7 := by rw [List.length_take, List.length_map]; omega
  have l2 : ((ps.map eP).drop j).length ≤ 7 := by rw [List.length_drop, List.length_map]; omega
  have b1 := fAddD_list ((ps.map eP).take j) [bad] h (by rw [List.length_singleton]; omega)
  have b2 := fAddD_list ((ps.map eP).take j ++ [bad]) ((ps.map eP).drop j) h (by rw [List.length_append, List.length_singleton]; omega)
  have b3 := fAddD_list (((ps.map eP).take j ++ [bad]) ++ (ps.map eP).drop j) [.none] h (by rw [List.length_append, List.length_append, List.length_singleton, List.length_singleton]; omega)
  show (m2 fAddD (m2 fAddD (m2 fAddD (mSlD (mV 9) (oN) (oS (mV 3))) (mLd (lC (mV 5) (lN)))) (mSlD (mV 9) (oS (mV 3)) (oN))) (mLd (lC (mC .non) (lN))) S h).bindS S _ = _
  have c : m2 fAddD (m2 fAddD (m2 fAddD (mSlD (mV 9) (oN) (oS (mV 3))) (mLd (lC (mV 5) (lN)))) (mSlD (mV 9) (oS (mV 3)) (oN))) (mLd (lC (mC .non) (lN))) S h = .ok (.dat (.list (wrL ps j bad))) h := by
    simp only [m2, a1, a2, a3, a4, R.bind, b1, b2, b3]
  rw [c]
  rfl
/-- what is asked at one wrong list -/
structure Wr (ns : List Int) (steps : List Str) (ps : List Pn) (j : Nat) (bad : PyData) : Prop where
  rf : Refd ns steps (ps.take j) bad
  sk : Sk 400 4 bad
theorem wr_sk (k : StOk steps ps) (hp : ps.length ≤ 7) (hb : Sk 400 4 bad) : Sk (12 * (400 + 2) + 3) (4 + 1) (.list (wrL ps j bad)) := by
  refine Sk.list (fun d hd => ?_) ?_
  · rw [wr_eq] at hd
    rcases List.mem_append.mp hd with hd | hd
    · obtain ⟨p, hq, rfl⟩ := List.mem_map.mp hd
      exact ps_sk k (List.mem_of_mem_take hq)
    · rcases List.mem_cons.mp hd with e0 | hd
      · rw [e0]; exact hb
      · rcases List.mem_append.mp hd with hd | hd
        · obtain ⟨p, hq, rfl⟩ := List.mem_map.mp hd
          exact ps_sk k (List.mem_of_mem_drop hq)
        · rw [List.mem_singleton.mp hd]
          exact ⟨by decide +kernel, rfl, rfl, by decide +kernel, by decide +kernel⟩
  · rw [wr_eq, List.length_append, List.length_cons, List.length_append, List.length_map, List.length_map, List.length_take, List.length_drop, List.length_singleton]
    omega
theorem fls : ∀ j : Nat, j ≤ 7 → selfB (.tuple [.str "person", .int (j : Nat)]) = true := by decide +kernel
theorem wrong_at (ns : List Int) (d : Dr steps ps) (hj : j ≤ ps.length) (w : Wr ns steps ps j bad) : ∃ y10 y11, wrongB ns (wrT steps ps s0 s1 s2 j s4 (some (ofPd bad)) s6 s7 x10 x11 s12 s13 s14 s15 s16) h = .nx (wrT steps ps s0 s1 s2 j s4 (some (ofPd bad)) s6 s7 y10 y11 s12 s13 s14 s15 s16) h := by
  have hp := d.pl
  have k := d.ok
  have sk := wr_sk (j := j) k hp w.sk
  have rp : Rp (.list (wrL ps j bad)) := sk.repr (by decide) (by decide)
  have r : fRepr [.dat (.list (wrL ps j bad))] h = .ok (.str (PyData.shown (.list (wrL ps j bad)))) h := repr_of rp h
  refine ⟨some (.dat (.list (wrL ps j bad))), some (.str (PyData.shown (.list (wrL ps j bad)))), ?_⟩
  have c2 : sAsg (mBt (fRepr) (lC (mV 10) (lN))) (gtN 11) (wrT steps ps s0 s1 s2 j s4 (some (ofPd bad)) s6 s7 (some (.dat (.list (wrL ps j bad)))) x11 s12 s13 s14 s15 s16) h
      = .nx (wrT steps ps s0 s1 s2 j s4 (some (ofPd bad)) s6 s7 (some (.dat (.list (wrL ps j bad)))) (some (.str (PyData.shown (.list (wrL ps j bad))))) s12 s13 s14 s15 s16) h := by
    simp only [sAsg, mBt, lC, mV, lN, wrT, List.getElem?_cons_zero, List.getElem?_cons_succ, R.bind, R.bindS, r, gtN, List.set]
  have tl : (ps.take j).length = j := by rw [List.length_take]; omega
  have ck := check_bad (steps := steps) ns (qs := ps.take j) (by
      rw [List.map_take]
      exact k.pnd.sublist (List.take_sublist _ _)) (fun p hq => ns_ok _ (k.pns p (List.mem_of_mem_take hq)).1) (fun p hq => person_at ns k (List.mem_of_mem_take hq)) (by omega) ((ps.drop j).map eP ++ [.none]) w.rf
  rw [← wr_eq, tl] at ck
  have md : d_law_made ns [.dat (.list (eS steps)), .dat (.list (wrL ps j bad))] h = .ok (.dat (.tuple [.str "person", .int (j : Nat)])) h :=
    runP_ok (made_bad (S := .list (eS steps)) (W := .list (wrL ps j bad)) ns (init_bad (W := .list (wrL ps j bad)) ns (check_steps_at ns k) ck)) h
  let S := wrT steps ps s0 s1 s2 j s4 (some (ofPd bad)) s6 s7 (some (.dat (.list (wrL ps j bad)))) (some (.str (PyData.shown (.list (wrL ps j bad))))) s12 s13 s14 s15 s16
  have l8 : fLstD [.dat (.list (eS steps))] h = .ok (.dat (.list (eS steps))) h := by
    show newL ((eS steps).map ofPd) h = _
    exact newL_of _ _
  have c3 : mCall (d_law_made ns)  (lC (mBt (fLstD) (lC (mV 8) (lN))) (lC (mV 10) (lN))) S h = .ok (.dat (.tuple [.str "person", .int (j : Nat)])) h := by
    simp only [S, mCall, lC, mBt, mV, lN, wrT, List.getElem?_cons_zero, List.getElem?_cons_succ, R.bind, l8, md]
  have c4 : mTd (lC (mC (.str "person")) (lC (mV 3) (lN))) S h = .ok (.dat (.tuple [.str "person", .int (j : Nat)])) h := rfl
  have c5 : mBt (fRepr) (lC (mV 10) (lN)) S h = .ok (.str (PyData.shown (.list (wrL ps j bad)))) h := by
    simp only [S, mBt, lC, mV, lN, wrT, List.getElem?_cons_zero, List.getElem?_cons_succ, R.bind, r]
  have c6 : mV 11 S h = .ok (.str (PyData.shown (.list (wrL ps j bad)))) h := rfl
  have f1 := self_at (fls j (by omega)) h
  have f2 := fNe_same sk.so h
  unfold wrongB
  rw [sSeq, wr1_at hj hp]
  simp only
  rw [sSeq, c2]
  simp only
  show sIf _ _ _ S h = _
  rw [sIf, bOr]
  simp only [bV, m2, c3, c4, c5, c6, R.bind, f1, f2, asB, R.bindS, sPass]
  rfl
/-- the walk over all of them -/
theorem wrong_loop (ns : List Int) (d : Dr steps ps) (hj : j ≤ ps.length) {bads : List PyData} (w : ∀ bad ∈ bads, Wr ns steps ps j bad) : ∃ y5 y10 y11, loopF (gtN 5) (wrongB ns) (bads.map ofPd) (wrT steps ps s0 s1 s2 j s4 x5 s6 s7 x10 x11 s12 s13 s14 s15 s16) h
    = .nx (wrT steps ps s0 s1 s2 j s4 y5 s6 s7 y10 y11 s12 s13 s14 s15 s16) h := by
  obtain ⟨s', h', e, hI⟩ := loopF_inv (t := gtN 5) (b := wrongB ns) (I := fun us s h1 => (∀ u ∈ us, ∃ bad ∈ bads, u = ofPd bad) ∧ h1 = h ∧ ∃ y5 y10 y11, s = wrT steps ps s0 s1 s2 j s4 y5 s6 s7 y10 y11 s12 s13 s14 s15 s16) (fun x us s h1 ⟨i1, i2, y5, y10, y11, i3⟩ => by
    subst i2 i3
    obtain ⟨bad, hb, rfl⟩ := i1 x (.head _)
    obtain ⟨z10, z11, e⟩ := wrong_at ns d hj (w bad hb) (s0 := s0) (s1 := s1) (s2 := s2) (s4 := s4) (s6 := s6) (s7 := s7) (x10 := y10) (x11 := y11) (s12 := s12) (s13 := s13) (s14 := s14) (s15 := s15) (s16 := s16) (h := h1)
    exact ⟨_, _, _, rfl, .inl e, fun u hu => i1 u (List.mem_cons_of_mem _ hu), rfl, _, _, _, rfl⟩)
    (us := bads.map ofPd) (s := wrT steps ps s0 s1 s2 j s4 x5 s6 s7 x10 x11 s12 s13 s14 s15 s16) (h := h) ⟨fun u hu => by
      obtain ⟨b, hb, rfl⟩ := List.mem_map.mp hu
      exact ⟨b, hb, rfl⟩, rfl, _, _, _, rfl⟩
  obtain ⟨_, rfl, y5, y10, y11, rfl⟩ := hI
  exact ⟨y5, y10, y11, e⟩
end
end Law

set_option Elab.async false
set_option linter.all false
set_option maxRecDepth 1000000
set_option maxHeartbeats 0
namespace Law
open PySem PySem.Spec PyProof.Rows L2 Vm
def okPM (p : PM) : Bool := match p with
  | .ok (.bl true) (.lst [.int _, .int _]) => true
  | _ => false
theorem okPM_out {p : PM} (h : okPM p = true) : ∃ x y, p = .ok (.bl true) (fd x y) := by
  unfold okPM at h
  split at h
  · exact ⟨_, _, rfl⟩
  · cases h
theorem d2_0 (ns : List Int) (a b : Int) : okPM (p_law_doubles_right ns (fd a b) [stU ["ask"]]) = true := by kernel_rfl
theorem d2_1 (ns : List Int) (a b : Int) : okPM (p_law_doubles_right ns (fd a b) [stU ["ask"]]) = true := by kernel_rfl
theorem d2_2 (ns : List Int) (a b : Int) : okPM (p_law_doubles_right ns (fd a b) [stU ["ask", "as"]]) = true := by kernel_rfl
theorem d2_3 (ns : List Int) (a b : Int) : okPM (p_law_doubles_right ns (fd a b) [stU ["as", "ask"]]) = true := by kernel_rfl
theorem d2_4 (ns : List Int) (a b : Int) : okPM (p_law_doubles_right ns (fd a b) [stU ["ask", "as", "bid"]]) = true := by kernel_rfl
theorem d2_5 (ns : List Int) (a b : Int) : okPM (p_law_doubles_right ns (fd a b) [stU ["bid", "as", "ask"]]) = true := by kernel_rfl
theorem d2_6 (ns : List Int) (a b : Int) : okPM (p_law_doubles_right ns (fd a b) [stU ["ask", "as", "bid", "cut"]]) = true := by kernel_rfl
theorem d2_7 (ns : List Int) (a b : Int) : okPM (p_law_doubles_right ns (fd a b) [stU ["cut", "bid", "as", "ask"]]) = true := by kernel_rfl
theorem d2_8 (ns : List Int) (a b : Int) : okPM (p_law_doubles_right ns (fd a b) [stU ["ask", "as", "bid", "cut", "dig"]]) = true := by kernel_rfl
theorem d2_9 (ns : List Int) (a b : Int) : okPM (p_law_doubles_right ns (fd a b) [stU ["dig", "cut", "bid", "as", "ask"]]) = true := by kernel_rfl
theorem dd2_at (ns : List Int) (a b : Int) : ∀ st ∈ allSteps, okPM (p_law_doubles_right ns (fd a b) [stU st]) = true := all_st (p := fun st => okPM (p_law_doubles_right ns (fd a b) [stU st]) = true) (d2_0 ns a b) (d2_1 ns a b) (d2_2 ns a b) (d2_3 ns a b) (d2_4 ns a b) (d2_5 ns a b) (d2_6 ns a b) (d2_7 ns a b) (d2_8 ns a b) (d2_9 ns a b)
end Law

set_option Elab.async false
set_option linter.all false
set_option maxRecDepth 100000
set_option maxHeartbeats 4100000
namespace Law
open PySem PySem.Spec PyProof.Rows L2 Vm
section
variable {steps : List Str} {ps : List Pn}
theorem rr_out {ns : List Int} {a b : Int} {st : List Str} {i : Nat} (h : rr ns a b st i = true) : ∃ x y, refB ns [some (.loc 0), some (stU st), some (.int (i : Nat)), none, none, none, none] [fd a b] = .rt (.bl true) [fd x y] := by
  unfold rr at h
  generalize refB ns [some (.loc 0), some (stU st), some (.int (i : Nat)), none, none, none, none] [fd a b] = p at h ⊢
  split at h
  · exact ⟨_, _, rfl⟩
  · cases h
theorem oddOk_out {ns : List Int} {st : List Str} {bad : PyData} (h : oddOk ns st bad = true) : p_p_is_person ns [stU st, ofPd bad] = .ok (.bl false) ∧ Sk 400 4 bad := by
  unfold oddOk at h
  generalize p_p_is_person ns [stU st, ofPd bad] = p at h ⊢
  rw [Bool.and_eq_true] at h
  refine ⟨?_, sk_of h.2⟩
  have h1 := h.1
  split at h1
  · rfl
  · cases h1
theorem od_out {ns : List Int} {st : List Str} (h : od ns st = true) : ∃ l : List PyData, p_law_odd_people ns [stU st, .str "newname"] = .ok (.dat (.list l)) ∧ l.length ≤ 100 ∧ ∀ bad ∈ l, p_p_is_person ns [stU st, ofPd bad] = .ok (.bl false) ∧ Sk 400 4 bad := by
  unfold od at h
  generalize p_law_odd_people ns [stU st, .str "newname"] = p at h ⊢
  split at h
  · rename_i l
    rw [Bool.and_eq_true, Nat.ble_eq] at h
    exact ⟨l, rfl, h.1, fun bad hb => oddOk_out (List.all_eq_true.mp h.2 bad hb)⟩
  · cases h
theorem e8_out {ns : List Int} {st : List Str} (h : made8 ns st = true) : p_law_made ns [stU st, .dat (.list (E8 ++ [.none]))] = .ok (.dat (.tuple [.str "count", .int 0])) ∧ p_law_made ns [stU st, .dat (.list E8)] = .ok .non ∧ ∀ n ∈ F8, p_p_is_person ns [stU st, .dat (eP (n, "q", []))] = .ok (.bl true) := by
  unfold made8 at h
  rw [Bool.and_eq_true, Bool.and_eq_true] at h
  obtain ⟨h1, h2, h3⟩ := h
  refine ⟨?_, ?_, fun n hn => ?_⟩
  · generalize p_law_made ns [stU st, .dat (.list (E8 ++ [.none]))] = p at h1 ⊢
    split at h1
    · rw [Bool.and_eq_true, decide_eq_true_eq, decide_eq_true_eq] at h1
      rw [h1.1, h1.2]
    · cases h1
  · generalize p_law_made ns [stU st, .dat (.list E8)] = p at h2 ⊢
    split at h2
    · rfl
    · cases h2
  · have h4 := List.all_eq_true.mp h3 n hn
    generalize p_p_is_person ns [stU st, .dat (eP (n, "q", []))] = p at h4 ⊢
    split at h4
    · rfl
    · cases h4
theorem runM_at {p : O → List U → PM} {h : Mh} {n : Nat} {o o' : O} {us : List U} {u : U} (e : h[n]? = some o) (po : pureO o = true) (pu : us.all pureU = true) (q : p o us = .ok u o') : runM p (.loc n :: us) h = .ok u (h.set n o') := by
  show (match h[n]? with
    | some o => if pureO o && us.all pureU then (match p o us with
      | .ok u o' => R.ok u (h.set n o')
      | .ex c f o' => .ex c f (h.set n o')
      | .stuck => .stuck) else .stuck
    | none => .stuck) = _
  rw [e]
  simp only [po, pu, Bool.and_self, if_true, q]
theorem refused_at (ns : List Int) (d : Dr steps ps) {h : Mh} {n : Nat} (f : Fd h n) : ∃ x y, d_law_steps_refused ns [.loc n, .dat (.list (eS steps))] h = .ok (.bl true) (h.set n (fd x y)) := by
  obtain ⟨a, b, e⟩ := f
  have l6 := d.ok.s1
  obtain ⟨r, a1, b1, h0, h1, q⟩ := take0 ns a b ((steps.length : Int) + 1) (by omega) (by omega)
  obtain ⟨i, rfl⟩ := Int.eq_ofNat_of_zero_le h0
  obtain ⟨x, y, e2⟩ := rr_out (rr_at ns a1 b1 steps d.st i (by omega))
  refine ⟨x, y, runM_at e rfl rfl ?_⟩
  have ln : fLenD ns [.dat (.list (eS steps))] [fd a b] = .ok (.int (steps.length : Nat)) [fd a b] := by
    show R.ok (U.int (((eS steps).map ofPd).length : Nat)) [fd a b] = _
    rw [List.length_map, List.length_map]
  have c1 : sAsg (mCall (d_law_take ns)  (lC (mV 0) (lC (m2 fAddD (mBt (fLenD ns) (lC (mV 1) (lN))) (mC (.int 1))) (lN)))) (gtN 2) [some (.loc 0), some (.dat (.list (eS steps))), none, none, none, none, none] [fd a b]
      = .nx [some (.loc 0), some (.dat (.list (eS steps))), some (.int (i : Nat)), none, none, none, none] [fd a1 b1] := by
    have ad : fAddD (.int (steps.length : Nat)) (.int 1) [fd a b] = .ok (.int ((steps.length : Int) + 1)) [fd a b] := rfl
    have q' := q []
    simp only [sAsg, mCall, lC, m2, mBt, mV, mC, lN, List.getElem?_cons_zero, List.getElem?_cons_succ, R.bind, R.bindS, ln, ad, q', gtN, List.set]
  have m : m_law_steps_refused ns (slotsOf 7 (.loc 0 :: [.dat (.list (eS steps))])) [fd a b] = .rt (.bl true) [fd x y] := by
    unfold m_law_steps_refused
    rw [show slotsOf 7 (.loc 0 :: [.dat (.list (eS steps))]) = [some (.loc 0), some (.dat (.list (eS steps))), none, none, none, none, none] from rfl, sSeq, c1]
    simp only
    unfold refB at e2
    exact e2
  unfold p_law_steps_refused pmf
  rw [m]
  rfl
theorem doubles_at (ns : List Int) (d : Dr steps ps) {h : Mh} {n : Nat} (f : Fd h n) : ∃ x y, d_law_doubles_right ns [.loc n, .dat (.list (eS steps))] h = .ok (.bl true) (h.set n (fd x y)) := by
  obtain ⟨a, b, e⟩ := f
  obtain ⟨x, y, e2⟩ := okPM_out (dd2_at ns a b steps d.st)
  exact ⟨x, y, runM_at e rfl rfl e2⟩
theorem people_at (ns : List Int) (h : Mh) : d_p_Staff_people ns [staffU steps ps] h = .ok (.dat (.list ((ordL steps ps).map eP))) h := by
  have a3 : fLstD [.dat (.list ((ordL steps ps).map eP))] [] = .ok (.dat (.list ((ordL steps ps).map eP))) [] := by
    show newL (((ordL steps ps).map eP).map ofPd) [] = _
    exact newL_of _ _
  have e : m_p_Staff_people ns (slotsOf 1 [staffU steps ps]) [] = .rt (.dat (.list ((ordL steps ps).map eP))) [] := by
    unfold m_p_Staff_people
    rw [show slotsOf 1 [staffU steps ps] = [some (staffU steps ps)] from rfl]
    have f2 : mFldD 7 "_people" (mV 0) [some (staffU steps ps)] [] = .ok (.dat (.list ((ordL steps ps).map eP))) [] := rfl
    simp only [sRet, mBt, lC, lN, f2, R.bind, R.bindS, a3]
  exact runP_ok (pfn_rt rfl e rfl) h
theorem told2_at (ns : List Int) (k : StOk steps ps) (h : Mh) : d_law_told ns [.dat (.list (eS steps)), .dat (.list (ps.map eP))] h = .ok (.dat (.list ((ordL steps ps).map eP))) h := by
  have hl := k.pl
  have h6 := k.s1
  let S : Sl := [some (.dat (.list (eS steps))), some (.dat (.list (ps.map eP))), none, none, none, none]
  have inner : ∀ (p : Pn), p ∈ ps → ∀ x2 x3, mLcF (wSeq (mV 0)) (gtN 5) (bV (m2 fIn (mV 5) (mV 4))) (mV 5) [5] [some (.dat (.list (eS steps))), some (.dat (.list (ps.map eP))), x2, x3, some (.dat (.tuple (eS p.2.2))), none] [] = .ok (.dat (.list (eS (steps.filter fun x => decide (x ∈ p.2.2))))) [] := fun p hp x2 x3 => by
    have kp := k.pns p hp
    have := mLcF_if (m := wSeq (mV 0)) (t := gtN 5) (q := bV (m2 fIn (mV 5) (mV 4))) (e := mV 5) (vs := [5]) (s := [some (.dat (.list (eS steps))), some (.dat (.list (ps.map eP))), x2, x3, some (.dat (.tuple (eS p.2.2))), none]) (h := []) (us := (eS steps).map ofPd)
      (qb := fun u => match u with | .str x => decide (x ∈ p.2.2) | _ => false) (fe := fun u => match u with | .str x => .str x | _ => .none) rfl (by rw [List.length_map, List.length_map]; unfold lim; omega) (fun u hu => by
        rw [of_str] at hu
        obtain ⟨x, hx, rfl⟩ := List.mem_map.mp hu
        refine ⟨[some (.dat (.list (eS steps))), some (.dat (.list (ps.map eP))), x2, x3, some (.dat (.tuple (eS p.2.2))), some (.str x)], rfl, ?_, fun _ => rfl⟩
        have i2 : fInB (.str x) (.dat (.tuple (eS p.2.2))) [] = some (decide (x ∈ p.2.2)) := by
          rw [show U.str x = ofPd (.str x) from rfl, emb_str.in_at (k.oks x hx) (fun z hz => k.oks z (kp.2.2.1 z hz)) (.inr (rd_dat _ _ _))]
        simp only [bV, m2, mV, List.getElem?_cons_zero, List.getElem?_cons_succ, R.bind, fIn, i2, asB])
    rw [this]
    congr 3
    rw [of_str, List.filter_map, List.map_map, eS]
    rfl
  have c := mLcF_yes (m := wSeq (mV 1)) (t := gtD 3 (gtCons (gtN 2) (gtCons (gtN 3) (gtCons (gtN 4) (gtNil))))) (e := mTd (lC (mV 2) (lC (mV 3) (lC (mBt (fTupD) (lC (mLcF (wSeq (mV 0)) (gtN 5) (bV (m2 fIn (mV 5) (mV 4))) (mV 5) [5]) (lN))) (lN))))) (vs := [2, 3, 4]) (s := S) (h := []) (us := (ps.map eP).map ofPd)
    (fe := fun u => match u with | .dat (.tuple [.str a, .str b, .tuple l]) => .tuple [.str a, .str b, .tuple (eS (steps.filter fun x => l.any fun z => PyData.eqv z (.str x)))] | _ => .none) rfl (by rw [List.length_map, List.length_map]; unfold lim; omega) (fun u hu => by
      obtain ⟨p, hp, rfl⟩ := mem_eP hu
      refine ⟨[some (.dat (.list (eS steps))), some (.dat (.list (ps.map eP))), some (.str p.1), some (.str p.2.1), some (.dat (.tuple (eS p.2.2))), none], rfl, ?_⟩
      have i := inner p hp (some (.str p.1)) (some (.str p.2.1))
      have t : fTupD [.dat (.list (eS (steps.filter fun x => decide (x ∈ p.2.2))))] [] = .ok (.dat (.tuple (eS (steps.filter fun x => decide (x ∈ p.2.2))))) [] := by
        show newT ((eS (steps.filter fun x => decide (x ∈ p.2.2))).map ofPd) [] = _
        exact newT_of _ _
      have n := newT_of [.str p.1, .str p.2.1, .tuple (eS (steps.filter fun x => decide (x ∈ p.2.2)))] []
      let S1 : Sl := [some (.dat (.list (eS steps))), some (.dat (.list (ps.map eP))), some (.str p.1), some (.str p.2.1), some (.dat (.tuple (eS p.2.2))), none]
      have q2 : mV 2 S1 [] = .ok (.str p.1) [] := rfl
      have q3 : mV 3 S1 [] = .ok (.str p.2.1) [] := rfl
      have q4 : mBt (fTupD) (lC (mLcF (wSeq (mV 0)) (gtN 5) (bV (m2 fIn (mV 5) (mV 4))) (mV 5) [5]) (lN)) S1 [] = .ok (.dat (.tuple (eS (steps.filter fun x => decide (x ∈ p.2.2))))) [] := by
        rw [mBt, lC, i]
        simp only [R.bind, lN, t]
      show mTd _ S1 [] = _
      rw [mTd, lC, q2]
      simp only [R.bind]
      rw [lC, q3]
      simp only [R.bind]
      rw [lC, q4]
      simp only [R.bind, lN]
      rw [if_pos (by rfl)]
      simp only [eP, emb_str.any]
      exact n)
  have e : m_law_told ns (slotsOf 6 [.dat (.list (eS steps)), .dat (.list (ps.map eP))]) [] = .rt (.dat (.list ((ordL steps ps).map eP))) [] := by
    unfold m_law_told
    rw [show slotsOf 6 [.dat (.list (eS steps)), .dat (.list (ps.map eP))] = S from rfl, sRet, c]
    have z : ((ps.map eP).map ofPd).map (fun u => match u with | .dat (.tuple [.str a, .str b, .tuple l]) => PyData.tuple [.str a, .str b, .tuple (eS (steps.filter fun x => l.any fun z => PyData.eqv z (.str x)))] | _ => .none) = (ordL steps ps).map eP := by
      rw [List.map_map, List.map_map, List.map_map]
      apply List.map_congr_left
      intro p _
      simp only [Function.comp, eP, ordP, ofPd, emb_str.any]
    rw [z]
    rfl
  exact runP_ok (pfn_rt rfl e rfl) h
end
end Law

set_option Elab.async false
set_option linter.all false
set_option maxRecDepth 100000
set_option maxHeartbeats 4100000
namespace Law
open PySem PySem.Spec PyProof.Rows L2 Vm
theorem up_mem : ∀ {n : Nat} {i : Nat} {x : U}, x ∈ upI (i : Nat) n → ∃ j : Nat, x = .int (j : Nat)
  | 0, _, _, h => nomatch h
  | n + 1, i, x, h => by
    rcases List.mem_cons.mp (show x ∈ U.int (i : Nat) :: upI ((i + 1 : Nat) : Int) n from h) with rfl | h
    · exact ⟨i, rfl⟩
    · exact up_mem h
theorem feed_at (ns : List Int) (k : Nat) (h : Mh) : ∃ d s, d_law_feed ns [.scr, .int (k : Nat)] h = .ok (.loc h.length) (h ++ [fd d s]) := by
  have body : ∀ c : Int, ∃ d s, (sSeq (sAsg (mBt (fMax2) (lC (mC (.int 0)) (lC (m2 fSub (mBt (fAbs) (lC (mV 2) (lN))) (m2 fPow (mC (.int 10)) (mC (.int 18)))) (lN)))) (gtN 3))
    (sSeq (sAsg (m2 fMod (mBt (fInt) (lC (m2 fAddD (m2 fAddD (m2 fMulE (mV 2) (mC (.int 6364136223846793005))) (m2 fMulE (mC (.int 7919)) (mV 1))) (mC (.int 1442695040888963407))) (lN))) (mC (.int 2305843009213693951))) (gtN 4))
    (sRet (mL (lC (mV 3) (lC (mV 4) (lN))))))) [some .scr, some (.int (k : Nat)), some (.int c), none, none] h = .rt (.loc h.length) (h ++ [fd d s]) := fun c => by
    have m1 : fMulE (.int c) (.int 6364136223846793005) h = .ok (.int (c * 6364136223846793005)) h := by simp [slotsOf, sSeq, sIf, sAsg, sRet, sRetN, sE, sPut, Vm.putIn, bV, bNot, bAnd, bOr, m2, m1, mV, mC, mBt, mCall, lC, lN, R.bind, R.bindS, fIxD, seqOf, fGt, fLt, fLe, fGe, fSub, fMod, fDiv, fPow, fI, asB, fInt, gtN, pureO, pureU, outM, outU, fMulE, fMulD, fAddD, sPass, fAbs, fMax2, fMin2, mIf, mL, newO, fLenD, P0.at, pdOf]
    have m2' : fMulE (.int 7919) (.int (k : Nat)) h = .ok (.int (7919 * k)) h := by
      by_cases e : (k : Int) = 1
      · rw [e]; simp [slotsOf, sSeq, sIf, sAsg, sRet, sRetN, sE, sPut, Vm.putIn, bV, bNot, bAnd, bOr, m2, m1, mV, mC, mBt, mCall, lC, lN, R.bind, R.bindS, fIxD, seqOf, fGt, fLt, fLe, fGe, fSub, fMod, fDiv, fPow, fI, asB, fInt, gtN, pureO, pureU, outM, outU, fMulE, fMulD, fAddD, sPass, fAbs, fMax2, fMin2, mIf, mL, newO, fLenD, P0.at, pdOf]
      · simp [slotsOf, sSeq, sIf, sAsg, sRet, sRetN, sE, sPut, Vm.putIn, bV, bNot, bAnd, bOr, m2, m1, mV, mC, mBt, mCall, lC, lN, R.bind, R.bindS, fIxD, seqOf, fGt, fLt, fLe, fGe, fSub, fMod, fDiv, fPow, fI, asB, fInt, gtN, pureO, pureU, outM, outU, fMulE, fMulD, fAddD, sPass, fAbs, fMax2, fMin2, mIf, mL, newO, fLenD, P0.at, pdOf, e]
    have m3 : fPow (.int 10) (.int 18) h = .ok (.int (10 ^ 18)) h := by rfl
    refine ⟨(if ((if c < 0 then -c else c) - 10 ^ 18) > 0 then (if c < 0 then -c else c) - 10 ^ 18 else 0), (c * 6364136223846793005 + 7919 * k + 1442695040888963407) % 2305843009213693951, ?_⟩
    simp only [sSeq, sAsg, mBt, lC, mC, m2, mV, lN, List.getElem?_cons_zero, List.getElem?_cons_succ, R.bind, R.bindS, fAbs, m3, fSub, fI, if_true, fMax2, gtN, List.set, m1, m2', fAddD, fInt, fMod]
    rfl
  have first : ∃ c : Int, sAsg (mIf (bV (m2 fLt (mV 1) (mBt (fLenD ns) (lC (mV 0) (lN))))) (m2 (fIxD ns) (mV 0) (mV 1)) (m2 fAddD (m2 fMulE (mC (.int 61)) (mV 1)) (mC (.int 17)))) (gtN 2) [some .scr, some (.int (k : Nat)), none, none, none] h = .nx [some .scr, some (.int (k : Nat)), some (.int c), none, none] h := by
    have q : fLenD ns [.scr] h = .ok (.int ns.length) h := rfl
    by_cases hk : (k : Int) < ns.length
    · have q2 : fIxD ns .scr (.int (k : Nat)) h = .ok (.int (ns[k]'(by omega))) h := by
        have := atI_at (xs := ns) (i := k) (by omega)
        show (match atI ns (k : Int) with
          | some k => R.ok (U.int k) h
          | none => .stuck) = _
        rw [this]
      refine ⟨ns[k]'(by omega), ?_⟩
      simp only [sAsg, mIf, bV, m2, mV, mBt, lC, lN, List.getElem?_cons_zero, List.getElem?_cons_succ, R.bind, R.bindS, q, fLt, fI, if_true, asB, decide_eq_true hk, q2, gtN, List.set]
    · have m2' : fMulE (.int 61) (.int (k : Nat)) h = .ok (.int (61 * k)) h := by
        by_cases e : (k : Int) = 1
        · rw [e]; simp [slotsOf, sSeq, sIf, sAsg, sRet, sRetN, sE, sPut, Vm.putIn, bV, bNot, bAnd, bOr, m2, m1, mV, mC, mBt, mCall, lC, lN, R.bind, R.bindS, fIxD, seqOf, fGt, fLt, fLe, fGe, fSub, fMod, fDiv, fPow, fI, asB, fInt, gtN, pureO, pureU, outM, outU, fMulE, fMulD, fAddD, sPass, fAbs, fMax2, fMin2, mIf, mL, newO, fLenD, P0.at, pdOf]
        · simp [slotsOf, sSeq, sIf, sAsg, sRet, sRetN, sE, sPut, Vm.putIn, bV, bNot, bAnd, bOr, m2, m1, mV, mC, mBt, mCall, lC, lN, R.bind, R.bindS, fIxD, seqOf, fGt, fLt, fLe, fGe, fSub, fMod, fDiv, fPow, fI, asB, fInt, gtN, pureO, pureU, outM, outU, fMulE, fMulD, fAddD, sPass, fAbs, fMax2, fMin2, mIf, mL, newO, fLenD, P0.at, pdOf, e]
      refine ⟨61 * k + 17, ?_⟩
      simp only [sAsg, mIf, bV, m2, mV, mC, mBt, lC, lN, List.getElem?_cons_zero, List.getElem?_cons_succ, R.bind, R.bindS, q, fLt, fI, if_true, asB, decide_eq_false hk, m2', fAddD, gtN, List.set]
  obtain ⟨c, e1⟩ := first
  obtain ⟨d, s, e2⟩ := body c
  refine ⟨d, s, ?_⟩
  show finR (m_law_feed ns [some .scr, some (.int (k : Nat)), none, none, none] h) = _
  unfold m_law_feed
  rw [sSeq, e1]
  simp only
  rw [e2]
  rfl
theorem drawn_at (ns : List Int) {h : Mh} {n : Nat} (f : Fd h n) : ∃ (steps : List Str) (ps : List Pn) (d s : Int), Dr steps ps ∧ d_law_drawn_staff ns [.loc n, .int 5, .int 7] h = .ok (.dat (.list [.list (eS steps), .list (ps.map eP)])) (h.set n (fd d s)) := by
  obtain ⟨d, s, e⟩ := f
  obtain ⟨steps, ps, d', s', D, q⟩ := p_drawn ns d s 5 7 (by decide) (by decide) (by decide) (by decide)
  exact ⟨steps, ps, d', s', dr_of D, runM_at e rfl rfl q⟩
section
variable {steps : List Str} {ps : List Pn}
def agB (ns : List Int) : Ms := sAsg (mLcF (wSeq (mSlD (mSlD (mV 9) (oN) (oS (mV 3))) (oS (m1 fNeg (mC (.int 1)))) (oN))) (gtN 14) (bYes) (mTd (lC (m2 (fIxD ns) (mV 14) (mC (.int 0))) (lC (mC (.str "q")) (lC (mTd (lN)) (lN))))) [14]) (gtN 4)
def eightB : Ms := sAsg (mLcF (wSeq (mTd (lC (mC (.str "a")) (lC (mC (.str "b")) (lC (mC (.str "c")) (lC (mC (.str "d")) (lC (mC (.str "e")) (lC (mC (.str "f")) (lC (mC (.str "g")) (lC (mC (.str "h")) (lN))))))))))) (gtN 15) (bYes) (mTd (lC (mV 15) (lC (mC (.str "red")) (lC (mTd (lN)) (lN))))) [15]) (gtN 6)
def eight2B (ns : List Int) : Ms := sIf (bOr (bV (m2 fNe (mCall (d_law_made ns)  (lC (mBt (fLstD) (lC (mV 8) (lN))) (lC (m2 fAddD (mV 6) (mLd (lC (mC .non) (lN)))) (lN)))) (mTd (lC (mC (.str "count")) (lC (mC (.int 0)) (lN)))))) (bV (m2 fNotN (mCall (d_law_made ns)  (lC (mBt (fLstD) (lC (mV 8) (lN))) (lC (mV 6) (lN)))) (mC .non)))) (sRet (mC (.bl false))) (sPass)
def endB (ns : List Int) : Ms := sIf (bV (m2 fNe (mMethD 7 "people" (d_p_Staff_people ns)  (mV 7) lN) (mCall (d_law_told ns)  (lC (mV 8) (lC (mV 9) (lN)))))) (sRet (mC (.bl false))) (sPass)
def chkB (ns : List Int) : Ms := sIf (bOr (bNot (bV (mCall (d_law_steps_refused ns)  (lC (mV 2) (lC (mV 8) (lN)))))) (bNot (bV (mCall (d_law_doubles_right ns)  (lC (mV 2) (lC (mV 8) (lN))))))) (sRet (mC (.bl false))) (sPass)
def wrongs (ns : List Int) : Ms := sForF (wSeq (m2 fAddD (m2 fAddD (mCall (d_law_odd_people ns)  (lC (mV 8) (lC (mC (.str "newname")) (lN)))) (mSlD (mSlD (mV 9) (oN) (oS (mV 3))) (oN) (oS (mC (.int 1))))) (mV 4))) (gtN 5) (wrongB ns)
def asks (ns : List Int) : Ms := sForF (wSeq (mLd (lC (mC .non) (lC (mC (.str "q")) (lC (mC (.str "")) (lC (mC (.int 0)) (lC (mLd (lC (mC (.str "cid")) (lN))) (lC (mTd (lC (mC (.str "cid")) (lN))) (lC (mC (.str "Cid")) (lC (mC (.bl true)) (lC (mC (.str "nostep")) (lC (mC (.str "red")) (lC (mC (.str "seaports")) (lN)))))))))))))) (gtN 5) (askB ns)
def cellB (ns : List Int) : Ms := sSeq (sAsg (mCall (d_law_feed ns)  (lC (mV 0) (lC (mV 1) (lN)))) (gtN 2))
    (sSeq (sAsg (mCall (d_law_drawn_staff ns)  (lC (mV 2) (lC (mC (.int 5)) (lC (mC (.int 7)) (lN))))) (gtD 2 (gtCons (gtN 8) (gtCons (gtN 9) (gtNil)))))
    (sSeq (sAsg (mCall (d_law_take ns)  (lC (mV 2) (lC (m2 fAddD (mBt (fLenD ns) (lC (mV 9) (lN))) (mC (.int 1))) (lN)))) (gtN 3))
    (sSeq (chkB ns)
    (sSeq (agB ns)
    (sSeq (wrongs ns)
    (sSeq (eightB)
    (sSeq (eight2B ns)
    (sSeq (sAsg (mMakeD 7 (p_p_Staff___init__ ns)  (lC (mBt (fLstD) (lC (mV 8) (lN))) (lC (mBt (fLstD) (lC (mV 9) (lN))) (lN)))) (gtN 7))
    (sSeq (asks ns)
    (endB ns))))))))))
theorem law_is (ns : List Int) : m_p_law ns = sSeq (sForF (wR1 (lC (mBt (fMax2) (lC (mC (.int 1)) (lC (mBt (fMin2) (lC (mC (.int 2)) (lC (mBt (fLenD ns) (lC (mV 0) (lN))) (lN)))) (lN)))) (lN))) (gtN 1) (cellB ns)) (sRet (mC (.bl true))) := rfl
variable {s0 s1 s2 s4 x5 s6 s7 x10 x11 s12 s13 s14 s15 s16 : Option U} {h : Mh} {j : Nat}
abbrev agF (u : U) : PyData := match u with
  | .dat (.tuple [.str a, _, _]) => .tuple [.str a, .str "q", .tuple []]
  | _ => .none
abbrev agL (ps : List Pn) (j : Nat) : List PyData := ((cutU ((ps.map eP).take j) (some (-1)) none).map ofPd).map agF
theorem ag_at (ns : List Int) (hp : ps.length ≤ 7) : agB ns (wrT steps ps s0 s1 s2 j s4 x5 s6 s7 x10 x11 s12 s13 s14 s15 s16) h = .nx (wrT steps ps s0 s1 s2 j (some (.dat (.list (agL ps j)))) x5 s6 s7 x10 x11 s12 s13 s14 s15 s16) h := by
  let S := wrT steps ps s0 s1 s2 j s4 x5 s6 s7 x10 x11 s12 s13 s14 s15 s16
  have a1 : mSlD (mV 9) (oN) (oS (mV 3)) S h = .ok (.dat (.list ((ps.map eP).take j))) h := by
    show fSlD (.dat (.list (ps.map eP))) none (some (j : Int)) h = _
    rw [fSlD_list, cut_hi _ _ (by omega)]
    rfl
  have a2 : mSlD (mSlD (mV 9) (oN) (oS (mV 3))) (oS (m1 fNeg (mC (.int 1)))) (oN) S h = .ok (.dat (.list (cutU ((ps.map eP).take j) (some (-1)) none))) h := by
    rw [mSlD, a1]
    show fSlD (.dat (.list ((ps.map eP).take j))) (some (-1)) none h = _
    rw [fSlD_list]
  have w : wSeq (mSlD (mSlD (mV 9) (oN) (oS (mV 3))) (oS (m1 fNeg (mC (.int 1)))) (oN)) S h = .ok ((cutU ((ps.map eP).take j) (some (-1)) none).map ofPd) h := by
    show ((mSlD (mSlD (mV 9) (oN) (oS (mV 3))) (oS (m1 fNeg (mC (.int 1)))) (oN)) S h).bind (fun u h1 => match vSeq u with
      | some us => R.ok us h1
      | none => .stuck) = _
    rw [a2]
    rfl
  have c := mLcF_yes (m := wSeq (mSlD (mSlD (mV 9) (oN) (oS (mV 3))) (oS (m1 fNeg (mC (.int 1)))) (oN))) (t := gtN 14) (e := mTd (lC (m2 (fIxD ns) (mV 14) (mC (.int 0))) (lC (mC (.str "q")) (lC (mTd (lN)) (lN))))) (vs := [14]) (s := S) (h := h) (us := (cutU ((ps.map eP).take j) (some (-1)) none).map ofPd)
    (fe := agF) w (by
      have := cut_len ((ps.map eP).take j) (some (-1)) none
      rw [List.length_take, List.length_map] at this
      rw [List.length_map]
      unfold lim
      omega) (fun x hx => by
      obtain ⟨e, he, rfl⟩ := List.mem_map.mp hx
      obtain ⟨p, hp, rfl⟩ := List.mem_map.mp (List.mem_of_mem_take (cut_mem he))
      exact ⟨_, rfl, rfl⟩)
  show (mLcF (wSeq (mSlD (mSlD (mV 9) (oN) (oS (mV 3))) (oS (m1 fNeg (mC (.int 1)))) (oN))) (gtN 14) (bYes) (mTd (lC (m2 (fIxD ns) (mV 14) (mC (.int 0))) (lC (mC (.str "q")) (lC (mTd (lN)) (lN))))) [14] S h).bindS S _ = _
  rw [c]
  rfl
theorem wr_of (ns : List Int) (d : Dr steps ps) (hj : j ≤ ps.length) {odd : List PyData} (ho : ∀ bad ∈ odd, p_p_is_person ns [.dat (.list (eS steps)), ofPd bad] = .ok (.bl false) ∧ Sk 400 4 bad) (hq : ∀ n ∈ F8, p_p_is_person ns [.dat (.list (eS steps)), .dat (eP (n, "q", []))] = .ok (.bl true)) (hf : ∀ p ∈ ps, p.1 ∈ F8) :
    ∀ bad ∈ (odd ++ cutU ((ps.map eP).take j) none (some 1)) ++ agL ps j, Wr ns steps ps j bad := by
  intro bad hb
  have k := d.ok
  rcases List.mem_append.mp hb with hx | hb
  · rcases List.mem_append.mp hx with hy | hz
    · exact ⟨.inl (ho bad hy).1, (ho bad hy).2⟩
    · have hb' := cut_mem hz
      rw [← List.map_take] at hb'
      obtain ⟨p, hp, rfl⟩ := List.mem_map.mp hb'
      have hps := List.mem_of_mem_take hp
      exact ⟨.inr ⟨p, rfl, person_at ns k hps, List.mem_map.mpr ⟨p, hp, rfl⟩, ns_ok _ (k.pns p hps).1⟩, ps_sk k hps⟩
  · obtain ⟨u, hu, rfl⟩ := List.mem_map.mp hb
    obtain ⟨e, he, rfl⟩ := List.mem_map.mp hu
    have he' := cut_mem he
    rw [← List.map_take] at he'
    obtain ⟨p, hp, rfl⟩ := List.mem_map.mp he'
    have hps := List.mem_of_mem_take hp
    have qk : Sk 12 0 (.str "q") := ⟨by decide +kernel, by decide +kernel, rfl, by decide +kernel, by decide +kernel⟩
    exact ⟨.inr ⟨(p.1, "q", []), rfl, hq _ (hf p hps), List.mem_map.mpr ⟨p, hp, rfl⟩, ns_ok _ (k.pns p hps).1⟩, person_sk (p := (p.1, "q", [])) (ns_sk _ (k.pns p hps).1) qk (fun x hx => nomatch hx) (Nat.zero_le _)⟩
theorem wrongs_at (ns : List Int) (d : Dr steps ps) (hj : j ≤ ps.length) (hf : ∀ p ∈ ps, p.1 ∈ F8) : ∃ y5 y10 y11, wrongs ns (wrT steps ps s0 s1 s2 j (some (.dat (.list (agL ps j)))) x5 s6 s7 x10 x11 s12 s13 s14 s15 s16) h
    = .nx (wrT steps ps s0 s1 s2 j (some (.dat (.list (agL ps j)))) y5 s6 s7 y10 y11 s12 s13 s14 s15 s16) h := by
  obtain ⟨odd, eo, lo, ho⟩ := od_out (od_at ns steps d.st)
  obtain ⟨_, _, hq⟩ := e8_out (e8_at ns steps d.st)
  have hp := d.pl
  let S := wrT steps ps s0 s1 s2 j (some (.dat (.list (agL ps j)))) x5 s6 s7 x10 x11 s12 s13 s14 s15 s16
  let bads := (odd ++ cutU ((ps.map eP).take j) none (some 1)) ++ agL ps j
  obtain ⟨y5, y10, y11, e⟩ := wrong_loop ns d hj (bads := bads) (wr_of ns d hj ho hq hf) (s0 := s0) (s1 := s1) (s2 := s2) (s4 := some (.dat (.list (agL ps j)))) (x5 := x5) (s6 := s6) (s7 := s7) (x10 := x10) (x11 := x11) (s12 := s12) (s13 := s13) (s14 := s14) (s15 := s15) (s16 := s16) (h := h)
  refine ⟨y5, y10, y11, ?_⟩
  have a0 : mCall (d_law_odd_people ns)  (lC (mV 8) (lC (mC (.str "newname")) (lN))) S h = .ok (.dat (.list odd)) h := by
    have q : d_law_odd_people ns [.dat (.list (eS steps)), .str "newname"] h = .ok (.dat (.list odd)) h := runP_ok eo h
    simp only [S, wrT, mCall, lC, mV, mC, lN, List.getElem?_cons_zero, List.getElem?_cons_succ, R.bind, q]
  have a1 : mSlD (mV 9) (oN) (oS (mV 3)) S h = .ok (.dat (.list ((ps.map eP).take j))) h := by
    show fSlD (.dat (.list (ps.map eP))) none (some (j : Int)) h = _
    rw [fSlD_list, cut_hi _ _ (by omega)]
    rfl
  have a2 : mSlD (mSlD (mV 9) (oN) (oS (mV 3))) (oN) (oS (mC (.int 1))) S h = .ok (.dat (.list (cutU ((ps.map eP).take j) none (some 1)))) h := by
    rw [mSlD, a1]
    show fSlD (.dat (.list ((ps.map eP).take j))) none (some 1) h = _
    rw [fSlD_list]
  have a3 : mV 4 S h = .ok (.dat (.list (agL ps j))) h := rfl
  have l1 : (cutU ((ps.map eP).take j) none (some 1)).length ≤ 7 := by
    have := cut_len ((ps.map eP).take j) none (some 1)
    rw [List.length_take, List.length_map] at this
    omega
  have l2 : (agL ps j).length ≤ 7 := by
    have := cut_len ((ps.map eP).take j) (some (-1)) none
    rw [List.length_take, List.length_map] at this
    rw [List.length_map, List.length_map]
    omega
  have b1 := fAddD_list odd (cutU ((ps.map eP).take j) none (some 1)) h (by omega)
  have b2 := fAddD_list (odd ++ cutU ((ps.map eP).take j) none (some 1)) (agL ps j) h (by rw [List.length_append]; omega)
  have w : wSeq (m2 fAddD (m2 fAddD (mCall (d_law_odd_people ns)  (lC (mV 8) (lC (mC (.str "newname")) (lN)))) (mSlD (mSlD (mV 9) (oN) (oS (mV 3))) (oN) (oS (mC (.int 1))))) (mV 4)) S h = .ok (bads.map ofPd) h := by
    have c : m2 fAddD (m2 fAddD (mCall (d_law_odd_people ns)  (lC (mV 8) (lC (mC (.str "newname")) (lN)))) (mSlD (mSlD (mV 9) (oN) (oS (mV 3))) (oN) (oS (mC (.int 1))))) (mV 4) S h = .ok (.dat (.list bads)) h := by
      simp only [m2, a0, a2, a3, R.bind, b1, b2, bads]
    show (m2 fAddD (m2 fAddD (mCall (d_law_odd_people ns)  (lC (mV 8) (lC (mC (.str "newname")) (lN)))) (mSlD (mSlD (mV 9) (oN) (oS (mV 3))) (oN) (oS (mC (.int 1))))) (mV 4) S h).bind (fun u h1 => match vSeq u with
      | some us => R.ok us h1
      | none => .stuck) = _
    rw [c]
    rfl
  have z : decide ((bads.map ofPd).length < lim) = true := decide_eq_true (by
    rw [List.length_map, List.length_append, List.length_append]
    unfold lim
    omega)
  show sForF _ _ _ S h = _
  rw [sForF, w]
  simp only [R.bindS]
  rw [z, if_pos rfl, e]
theorem eight_at : eightB (wrT steps ps s0 s1 s2 j s4 x5 s6 s7 x10 x11 s12 s13 s14 s15 s16) h = .nx (wrT steps ps s0 s1 s2 j s4 x5 (some (.dat (.list E8))) s7 x10 x11 s12 s13 s14 s15 s16) h := by kernel_rfl
theorem eight2_at (ns : List Int) (d : Dr steps ps) : eight2B ns (wrT steps ps s0 s1 s2 j s4 x5 (some (.dat (.list E8))) s7 x10 x11 s12 s13 s14 s15 s16) h = .nx (wrT steps ps s0 s1 s2 j s4 x5 (some (.dat (.list E8))) s7 x10 x11 s12 s13 s14 s15 s16) h := by
  obtain ⟨q1, q2, _⟩ := e8_out (e8_at ns steps d.st)
  let S := wrT steps ps s0 s1 s2 j s4 x5 (some (.dat (.list E8))) s7 x10 x11 s12 s13 s14 s15 s16
  have l8 : fLstD [.dat (.list (eS steps))] h = .ok (.dat (.list (eS steps))) h := by
    show newL ((eS steps).map ofPd) h = _
    exact newL_of _ _
  have m1 : d_law_made ns [.dat (.list (eS steps)), .dat (.list (E8 ++ [.none]))] h = .ok (.dat (.tuple [.str "count", .int 0])) h := runP_ok q1 h
  have m2' : d_law_made ns [.dat (.list (eS steps)), .dat (.list E8)] h = .ok .non h := runP_ok q2 h
  have ad : m2 fAddD (mV 6) (mLd (lC (mC .non) (lN))) S h = .ok (.dat (.list (E8 ++ [.none]))) h := by
    have := fAddD_list E8 [.none] h (by decide +kernel)
    have a : mLd (lC (mC .non) (lN)) S h = .ok (.dat (.list [.none])) h := rfl
    rw [m2, show mV 6 S h = .ok (.dat (.list E8)) h from rfl]
    simp only [R.bind, a, this]
  have l9 : mBt (fLstD) (lC (mV 8) (lN)) S h = .ok (.dat (.list (eS steps))) h := by
    simp only [S, wrT, mBt, lC, mV, lN, List.getElem?_cons_zero, List.getElem?_cons_succ, R.bind, l8]
  have c1 : mCall (d_law_made ns)  (lC (mBt (fLstD) (lC (mV 8) (lN))) (lC (m2 fAddD (mV 6) (mLd (lC (mC .non) (lN)))) (lN))) S h = .ok (.dat (.tuple [.str "count", .int 0])) h := by
    rw [mCall, lC, l9]
    simp only [R.bind]
    rw [lC, ad]
    simp only [R.bind, lN, m1]
  have c2 : mCall (d_law_made ns)  (lC (mBt (fLstD) (lC (mV 8) (lN))) (lC (mV 6) (lN))) S h = .ok .non h := by
    rw [mCall, lC, l9]
    simp only [R.bind]
    rw [lC, show mV 6 S h = .ok (.dat (.list E8)) h from rfl]
    simp only [R.bind, lN, m2']
  have t : mTd (lC (mC (.str "count")) (lC (mC (.int 0)) (lN))) S h = .ok (.dat (.tuple [.str "count", .int 0])) h := rfl
  have sc : selfB (.tuple [.str "count", .int 0]) = true := by kernel_rfl
  have f1 := self_at sc h
  have f2 : fNotN .non .non h = .ok (.bl false) h := rfl
  show sIf (bOr (bV (m2 fNe (mCall (d_law_made ns)  (lC (mBt (fLstD) (lC (mV 8) (lN))) (lC (m2 fAddD (mV 6) (mLd (lC (mC .non) (lN)))) (lN)))) (mTd (lC (mC (.str "count")) (lC (mC (.int 0)) (lN)))))) (bV (m2 fNotN (mCall (d_law_made ns)  (lC (mBt (fLstD) (lC (mV 8) (lN))) (lC (mV 6) (lN)))) (mC .non)))) (sRet (mC (.bl false))) (sPass) S h = _
  have k1 : bV (m2 fNe (mCall (d_law_made ns)  (lC (mBt (fLstD) (lC (mV 8) (lN))) (lC (m2 fAddD (mV 6) (mLd (lC (mC .non) (lN)))) (lN)))) (mTd (lC (mC (.str "count")) (lC (mC (.int 0)) (lN))))) S h = .ok false h := by
    rw [bV, m2, c1]
    simp only [R.bind, t, f1, asB]
  have k2 : bV (m2 fNotN (mCall (d_law_made ns)  (lC (mBt (fLstD) (lC (mV 8) (lN))) (lC (mV 6) (lN)))) (mC .non)) S h = .ok false h := by
    rw [bV, m2, c2]
    simp only [R.bind, mC, f2, asB]
  rw [sIf, bOr, k1]
  simp only [R.bind, k2, R.bindS, sPass]
  rfl
theorem chk_at (ns : List Int) (d : Dr steps ps) {n : Nat} (f : Fd h n) : ∃ x y, chkB ns (wrT steps ps s0 s1 (some (.loc n)) j s4 x5 s6 s7 x10 x11 s12 s13 s14 s15 s16) h = .nx (wrT steps ps s0 s1 (some (.loc n)) j s4 x5 s6 s7 x10 x11 s12 s13 s14 s15 s16) (h.set n (fd x y)) := by
  obtain ⟨x1, y1, e1⟩ := refused_at ns d f
  obtain ⟨x2, y2, e2⟩ := doubles_at ns d (f.set x1 y1)
  refine ⟨x2, y2, ?_⟩
  simp only [chkB, sIf, bOr, bNot, bV, mCall, lC, mV, lN, wrT, List.getElem?_cons_zero, List.getElem?_cons_succ, R.bind, R.bindS, e1, e2, asB, Bool.not_true, sPass, List.set_set]
theorem asks_at (ns : List Int) (d : Dr steps ps) {s3 s8' : Option U} : ∃ y5 y12 y13 h', asks ns [s0, s1, s2, s3, s4, x5, s6, some (staffU steps ps), some (.dat (.list (eS steps))), some (.dat (.list (ps.map eP))), x10, x11, s12, s13, s14, s15, s16] h
    = .nx [s0, s1, s2, s3, s4, y5, s6, some (staffU steps ps), some (.dat (.list (eS steps))), some (.dat (.list (ps.map eP))), x10, x11, y12, y13, s14, s15, s16] h' := by
  obtain ⟨s', h', e, hI⟩ := loopF_inv (t := gtN 5) (b := askB ns) (I := fun us s _ => (∀ u ∈ us, ∃ v ∈ BVs, u = ofPd v) ∧ ∃ y5 y12 y13, s = [s0, s1, s2, s3, s4, y5, s6, some (staffU steps ps), some (.dat (.list (eS steps))), some (.dat (.list (ps.map eP))), x10, x11, y12, y13, s14, s15, s16]) (fun x us s h1 ⟨i1, y5, y12, y13, i3⟩ => by
    subst i3
    obtain ⟨v, hv, rfl⟩ := i1 x (.head _)
    obtain ⟨z12, z13, h2, e⟩ := ask_at ns d hv (s0 := s0) (s1 := s1) (s2 := s2) (s3 := s3) (s4 := s4) (s6 := s6) (s10 := x10) (s11 := x11) (x12 := y12) (x13 := y13) (x14 := s14) (s15 := s15) (x16 := s16) (h := h1)
    exact ⟨_, _, _, rfl, .inl e, fun u hu => i1 u (List.mem_cons_of_mem _ hu), _, _, _, rfl⟩)
    (us := BVs.map ofPd) (s := [s0, s1, s2, s3, s4, x5, s6, some (staffU steps ps), some (.dat (.list (eS steps))), some (.dat (.list (ps.map eP))), x10, x11, s12, s13, s14, s15, s16]) (h := h) ⟨fun u hu => by
      obtain ⟨b, hb, rfl⟩ := List.mem_map.mp hu
      exact ⟨b, hb, rfl⟩, _, _, _, rfl⟩
  obtain ⟨_, y5, y12, y13, rfl⟩ := hI
  refine ⟨y5, y12, y13, h', ?_⟩
  have z : decide ((BVs.map ofPd).length < lim) = true := decide_eq_true (by
    rw [List.length_map]
    unfold lim
    show 11 < 100000
    omega)
  unfold asks
  rw [sForF, show wSeq (mLd (lC (mC .non) (lC (mC (.str "q")) (lC (mC (.str "")) (lC (mC (.int 0)) (lC (mLd (lC (mC (.str "cid")) (lN))) (lC (mTd (lC (mC (.str "cid")) (lN))) (lC (mC (.str "Cid")) (lC (mC (.bl true)) (lC (mC (.str "nostep")) (lC (mC (.str "red")) (lC (mC (.str "seaports")) (lN))))))))))))) [s0, s1, s2, s3, s4, x5, s6, some (staffU steps ps), some (.dat (.list (eS steps))), some (.dat (.list (ps.map eP))), x10, x11, s12, s13, s14, s15, s16] h = .ok (BVs.map ofPd) h from rfl]
  simp only [R.bindS]
  rw [z, if_pos rfl, e]
theorem end_at (ns : List Int) (d : Dr steps ps) {s3 : Option U} : endB ns [s0, s1, s2, s3, s4, x5, s6, some (staffU steps ps), some (.dat (.list (eS steps))), some (.dat (.list (ps.map eP))), x10, x11, s12, s13, s14, s15, s16] h
    = .nx [s0, s1, s2, s3, s4, x5, s6, some (staffU steps ps), some (.dat (.list (eS steps))), some (.dat (.list (ps.map eP))), x10, x11, s12, s13, s14, s15, s16] h := by
  have k := d.ok
  have q1 := people_at (steps := steps) (ps := ps) ns h
  have q2 := told2_at ns k h
  have hm : mMethD 7 "people" (d_p_Staff_people ns)  (mV 7) lN [s0, s1, s2, s3, s4, x5, s6, some (staffU steps ps), some (.dat (.list (eS steps))), some (.dat (.list (ps.map eP))), x10, x11, s12, s13, s14, s15, s16] h = .ok (.dat (.list ((ordL steps ps).map eP))) h := by
    simp only [mMethD, mV, List.getElem?_cons_zero, List.getElem?_cons_succ, R.bind]
    rw [show insD 7 (staffU steps ps) h = some (staffF steps ps) from rfl]
    simp only
    rw [show List.lookup ("people" : Str) (staffF steps ps) = none from rfl]
    simp only [lN, R.bind, q1]
  have kk : StOk steps ((ordL steps ps).filter fun _ => true) := part_ok k fun _ => true
  rw [filter_yes] at kk
  have sk : Sk (8 * (400 + 2) + 3) (4 + 1) (.list ((ordL steps ps).map eP)) := Sk.list (fun e he => by
    obtain ⟨p, hp, rfl⟩ := List.mem_map.mp he
    exact ps_sk kk hp) (by rw [List.length_map]; exact kk.pl)
  have sb : selfB (.list ((ordL steps ps).map eP)) = true := by
    unfold selfB
    rw [sk.shaped (by decide), SeqAt.eqv_refl _ sk.lay]
    rfl
  have ne := self_at sb h
  simp only [endB, sIf, bV, m2, hm, R.bind, R.bindS, mCall, lC, mV, lN, List.getElem?_cons_zero, List.getElem?_cons_succ, q2, ne, asB, sPass]
structure CellI (us : List U) (s : Sl) (h : Mh) : Prop where
  us : ∀ u ∈ us, ∃ j : Nat, u = .int (j : Nat)
  es : ∃ x1 x2 x3 x4 x5 x6 x7 x8 x9 x10 x11 x12 x13 x14 x15 x16, s = [some .scr, x1, x2, x3, x4, x5, x6, x7, x8, x9, x10, x11, x12, x13, x14, x15, x16]
theorem cell_step (ns : List Int) (x : U) (us : List U) (s : Sl) (h : Mh) (i : CellI (x :: us) s h) : ∃ s' s2 h2, gtN 1 x s h = some s' ∧ (cellB ns s' h = .nx s2 h2 ∨ cellB ns s' h = .ct s2 h2) ∧ CellI us s2 h2 := by
  obtain ⟨iu, x1, x2, x3, x4, x5, x6, x7, x8, x9, x10, x11, x12, x13, x14, x15, x16, rfl⟩ := i
  obtain ⟨c, rfl⟩ := iu x (.head _)
  obtain ⟨d0, s0, e1⟩ := feed_at ns c h
  have f : Fd (h ++ [fd d0 s0]) h.length := ⟨d0, s0, by simp⟩
  obtain ⟨steps, ps, d2, s2, D, e2⟩ := drawn_at ns f
  have f2 := f.set d2 s2
  have hl := D.pl
  have hf8 : ∀ p ∈ ps, p.1 ∈ F8 := D.f9
  obtain ⟨r, d3, s3, r0, r1, e3⟩ := d_take ns f2 ((ps.length : Int) + 1) (by omega) (by omega)
  obtain ⟨j, rfl⟩ := Int.eq_ofNat_of_zero_le r0
  have f3 := f2.set d3 s3
  obtain ⟨d4, s4, e4⟩ := chk_at ns D f3 (s0 := some .scr) (s1 := some (.int (c : Nat))) (j := j) (s4 := x4) (x5 := x5) (s6 := x6) (s7 := x7) (x10 := x10) (x11 := x11) (s12 := x12) (s13 := x13) (s14 := x14) (s15 := x15) (s16 := x16)
  let h4 := (((((h ++ [fd d0 s0]).set h.length (fd d2 s2)).set h.length (fd d3 s3))).set h.length (fd d4 s4))
  have e5 := ag_at (steps := steps) (ps := ps) ns hl (s0 := some .scr) (s1 := some (.int (c : Nat))) (s2 := some (.loc h.length)) (j := j) (s4 := x4) (x5 := x5) (s6 := x6) (s7 := x7) (x10 := x10) (x11 := x11) (s12 := x12) (s13 := x13) (s14 := x14) (s15 := x15) (s16 := x16) (h := h4)
  obtain ⟨y5, y10, y11, e6⟩ := wrongs_at ns D (show j ≤ ps.length by omega) hf8 (s0 := some .scr) (s1 := some (.int (c : Nat))) (s2 := some (.loc h.length)) (x5 := x5) (s6 := x6) (s7 := x7) (x10 := x10) (x11 := x11) (s12 := x12) (s13 := x13) (s14 := x14) (s15 := x15) (s16 := x16) (h := h4)
  have e7 := eight_at (steps := steps) (ps := ps) (s0 := some .scr) (s1 := some (.int (c : Nat))) (s2 := some (.loc h.length)) (j := j) (s4 := some (.dat (.list (agL ps j)))) (x5 := y5) (s6 := x6) (s7 := x7) (x10 := y10) (x11 := y11) (s12 := x12) (s13 := x13) (s14 := x14) (s15 := x15) (s16 := x16) (h := h4)
  have e8 := eight2_at ns D (s0 := some .scr) (s1 := some (.int (c : Nat))) (s2 := some (.loc h.length)) (j := j) (s4 := some (.dat (.list (agL ps j)))) (x5 := y5) (s7 := x7) (x10 := y10) (x11 := y11) (s12 := x12) (s13 := x13) (s14 := x14) (s15 := x15) (s16 := x16) (h := h4)
  obtain ⟨z5, z12, z13, h5, e10⟩ := asks_at ns D (s0 := some .scr) (s1 := some (.int (c : Nat))) (s2 := some (.loc h.length)) (s3 := some (.int (j : Nat))) (s4 := some (.dat (.list (agL ps j)))) (x5 := y5) (s6 := some (.dat (.list E8))) (x10 := y10) (x11 := y11) (s12 := x12) (s13 := x13) (s14 := x14) (s15 := x15) (s16 := x16) (h := h4) (s8' := none)
  have e11 := end_at ns D (s0 := some .scr) (s1 := some (.int (c : Nat))) (s2 := some (.loc h.length)) (s3 := some (.int (j : Nat))) (s4 := some (.dat (.list (agL ps j)))) (x5 := z5) (s6 := some (.dat (.list E8))) (x10 := y10) (x11 := y11) (s12 := z12) (s13 := z13) (s14 := x14) (s15 := x15) (s16 := x16) (h := h5)
  refine ⟨[some .scr, some (.int (c : Nat)), x2, x3, x4, x5, x6, x7, x8, x9, x10, x11, x12, x13, x14, x15, x16], [some .scr, some (.int (c : Nat)), some (.loc h.length), some (.int (j : Nat)), some (.dat (.list (agL ps j))), z5, some (.dat (.list E8)), some (staffU steps ps), some (.dat (.list (eS steps))), some (.dat (.list (ps.map eP))), y10, y11, z12, z13, x14, x15, x16], h5, rfl, .inl ?_, ⟨fun u hu => iu u (List.mem_cons_of_mem _ hu), _, _, _, _, _, _, _, _, _, _, _, _, _, _, _, _, rfl⟩⟩
  · have c1 : sAsg (mCall (d_law_feed ns)  (lC (mV 0) (lC (mV 1) (lN)))) (gtN 2) [some .scr, some (.int (c : Nat)), x2, x3, x4, x5, x6, x7, x8, x9, x10, x11, x12, x13, x14, x15, x16] h = .nx [some .scr, some (.int (c : Nat)), some (.loc h.length), x3, x4, x5, x6, x7, x8, x9, x10, x11, x12, x13, x14, x15, x16] (h ++ [fd d0 s0]) := by
      simp only [sAsg, mCall, lC, mV, lN, List.getElem?_cons_zero, List.getElem?_cons_succ, R.bind, R.bindS, e1, gtN, List.set]
    have c2 : sAsg (mCall (d_law_drawn_staff ns)  (lC (mV 2) (lC (mC (.int 5)) (lC (mC (.int 7)) (lN))))) (gtD 2 (gtCons (gtN 8) (gtCons (gtN 9) (gtNil)))) [some .scr, some (.int (c : Nat)), some (.loc h.length), x3, x4, x5, x6, x7, x8, x9, x10, x11, x12, x13, x14, x15, x16] (h ++ [fd d0 s0]) = .nx [some .scr, some (.int (c : Nat)), some (.loc h.length), x3, x4, x5, x6, x7, some (.dat (.list (eS steps))), some (.dat (.list (ps.map eP))), x10, x11, x12, x13, x14, x15, x16] ((h ++ [fd d0 s0]).set h.length (fd d2 s2)) := by
      have m : mCall (d_law_drawn_staff ns)  (lC (mV 2) (lC (mC (.int 5)) (lC (mC (.int 7)) (lN)))) [some .scr, some (.int (c : Nat)), some (.loc h.length), x3, x4, x5, x6, x7, x8, x9, x10, x11, x12, x13, x14, x15, x16] (h ++ [fd d0 s0]) = .ok (.dat (.list [.list (eS steps), .list (ps.map eP)])) ((h ++ [fd d0 s0]).set h.length (fd d2 s2)) := by
        simp only [mCall, lC, mV, mC, lN, List.getElem?_cons_zero, List.getElem?_cons_succ, R.bind, e2]
      rw [sAsg, m]
      rfl
    have ln : ∀ h, fLenD ns [.dat (.list (ps.map eP))] h = .ok (.int (ps.length : Nat)) h := fun h => by
      show R.ok (U.int (((ps.map eP).map ofPd).length : Nat)) h = _
      rw [List.length_map, List.length_map]
    have c3 : sAsg (mCall (d_law_take ns)  (lC (mV 2) (lC (m2 fAddD (mBt (fLenD ns) (lC (mV 9) (lN))) (mC (.int 1))) (lN)))) (gtN 3) [some .scr, some (.int (c : Nat)), some (.loc h.length), x3, x4, x5, x6, x7, some (.dat (.list (eS steps))), some (.dat (.list (ps.map eP))), x10, x11, x12, x13, x14, x15, x16] ((h ++ [fd d0 s0]).set h.length (fd d2 s2))
        = .nx (wrT steps ps (some .scr) (some (.int (c : Nat))) (some (.loc h.length)) j x4 x5 x6 x7 x10 x11 x12 x13 x14 x15 x16) (((h ++ [fd d0 s0]).set h.length (fd d2 s2)).set h.length (fd d3 s3)) := by
      have ad : ∀ h, fAddD (.int (ps.length : Nat)) (.int 1) h = .ok (.int ((ps.length : Int) + 1)) h := fun h => rfl
      simp only [sAsg, mCall, lC, m2, mBt, mV, mC, lN, List.getElem?_cons_zero, List.getElem?_cons_succ, R.bind, R.bindS, ln, ad, e3, gtN, List.set]
    have c9 : sAsg (mMakeD 7 (p_p_Staff___init__ ns)  (lC (mBt (fLstD) (lC (mV 8) (lN))) (lC (mBt (fLstD) (lC (mV 9) (lN))) (lN)))) (gtN 7) (wrT steps ps (some .scr) (some (.int (c : Nat))) (some (.loc h.length)) j (some (.dat (.list (agL ps j)))) y5 (some (.dat (.list E8))) x7 y10 y11 x12 x13 x14 x15 x16) h4
        = .nx [some .scr, some (.int (c : Nat)), some (.loc h.length), some (.int (j : Nat)), some (.dat (.list (agL ps j))), y5, some (.dat (.list E8)), some (staffU steps ps), some (.dat (.list (eS steps))), some (.dat (.list (ps.map eP))), y10, y11, x12, x13, x14, x15, x16] h4 := by
      have a3 : ∀ ds h, fLstD [.dat (.list ds)] h = .ok (.dat (.list ds)) h := fun ds h => by
        show newL (ds.map ofPd) h = _
        exact newL_of _ _
      have m : mMakeD 7 (p_p_Staff___init__ ns)  (lC (mBt (fLstD) (lC (mV 8) (lN))) (lC (mBt (fLstD) (lC (mV 9) (lN))) (lN))) (wrT steps ps (some .scr) (some (.int (c : Nat))) (some (.loc h.length)) j (some (.dat (.list (agL ps j)))) y5 (some (.dat (.list E8))) x7 y10 y11 x12 x13 x14 x15 x16) h4 = .ok (staffU steps ps) h4 := by
        simp only [mMakeD, lC, mBt, mV, lN, wrT, R.bind, List.getElem?_cons_zero, List.getElem?_cons_succ, a3, init_at ns D.ok]
        rfl
      rw [sAsg, m]
      rfl
    unfold cellB
    rw [sSeq, c1]
    simp only
    rw [sSeq, c2]
    simp only
    rw [sSeq, c3]
    simp only
    rw [sSeq, e4]
    simp only
    rw [sSeq, e5]
    simp only
    rw [sSeq, e6]
    simp only
    rw [sSeq, e7]
    simp only
    rw [sSeq, e8]
    simp only
    rw [sSeq, c9]
    simp only
    rw [sSeq, e10]
    simp only
    exact e11
theorem many_at (ns : List Int) : ∃ m : Nat, m ≤ 2 ∧ ∀ S h, lC (mBt (fMax2) (lC (mC (.int 1)) (lC (mBt (fMin2) (lC (mC (.int 2)) (lC (mBt (fLenD ns) (lC (mV 0) (lN))) (lN)))) (lN)))) (lN) (some .scr :: S) h = .ok [.int (m : Nat)] h := by
  refine ⟨(if (if (ns.length : Int) < 2 then (ns.length : Int) else 2) > 1 then (if (ns.length : Int) < 2 then (ns.length : Int) else 2) else 1).toNat, ?_, fun S h => ?_⟩
  · split <;> split <;> omega
  · have q : fLenD ns [.scr] h = .ok (.int ns.length) h := rfl
    have e : (((if (if (ns.length : Int) < 2 then (ns.length : Int) else 2) > 1 then (if (ns.length : Int) < 2 then (ns.length : Int) else 2) else 1).toNat : Nat) : Int) = (if (if (ns.length : Int) < 2 then (ns.length : Int) else 2) > 1 then (if (ns.length : Int) < 2 then (ns.length : Int) else 2) else 1) := by
      split <;> split <;> omega
    simp only [lC, mBt, mC, mV, lN, List.getElem?_cons_zero, R.bind, q, fMin2, fMax2]
    rw [e]
theorem yes (ns : List Int) (hn : ns.length ≤ 63) : Yes (runB N_p_law.length (m_p_law ns) [.scr] []) := by
  obtain ⟨m, m3, em⟩ := many_at ns
  obtain ⟨s', h', e, _⟩ := loopF_inv (t := gtN 1) (b := cellB ns) (I := CellI) (fun x us s h i => cell_step ns x us s h i) (us := upI 0 m) (s := [some .scr, none, none, none, none, none, none, none, none, none, none, none, none, none, none, none, none]) (h := [])
    ⟨fun u hu => up_mem (i := 0) hu, _, _, _, _, _, _, _, _, _, _, _, _, _, _, _, _, rfl⟩
  have st : sForF (wR1 (lC (mBt (fMax2) (lC (mC (.int 1)) (lC (mBt (fMin2) (lC (mC (.int 2)) (lC (mBt (fLenD ns) (lC (mV 0) (lN))) (lN)))) (lN)))) (lN))) (gtN 1) (cellB ns) [some .scr, none, none, none, none, none, none, none, none, none, none, none, none, none, none, none, none] [] = .nx s' h' := by
    have w := wR1_at (em [none, none, none, none, none, none, none, none, none, none, none, none, none, none, none, none] []) (vR1_nat m (by omega))
    have z : decide ((upI 0 m).length < lim) = true := decide_eq_true (by rw [upI_len]; unfold lim; omega)
    rw [sForF, w]
    simp only [R.bindS]
    rw [z, if_pos rfl]
    exact e
  have e2 : m_p_law ns [some .scr, none, none, none, none, none, none, none, none, none, none, none, none, none, none, none, none] [] = .rt (.bl true) h' := by
    rw [law_is, sSeq, st]
    rfl
  show Yes (finR (m_p_law ns [some .scr, none, none, none, none, none, none, none, none, none, none, none, none, none, none, none, none] []))
  rw [e2]
  exact trivial
end
end Law

set_option maxRecDepth 1000000
open PySem PySem.W in
open PyProof.Rows in
set_option maxHeartbeats 0 in
theorem PySem.Challenge.cw_unlikehands_k02_staffs_refused_holds : PySem.Challenge.rw_unlikehands_k02_staffs_refused.Holds := by
  w_on
  o_law
  k_head
  (case hw => w_witness2)
  k_fill
  refine Vm.walk_lawG (k := 7) (N := Law.N_p_law) (m := Law.m_p_law) (l := PySem.Challenge.rw_unlikehands_k02_staffs_refused) rfl rfl ⟨rfl, by decide, by decide⟩ (fun w h Y => PySem.W.kIn_of Y) Law.yes ?F
  case F =>
    intro w mg fa h KX G hmg
    refine' Law.all_mk KX G hmg ?ca0 ?ca1 ?ca2 ?ca3 ?ca4 ?ca5 ?ca6 ?ca7 ?kx1 ?bp1 ?tp1 ?xp1 ?kx2 ?bp2 ?tp2 ?xp2 ?kx3 ?bp3 ?tp3 ?lk3 ?rf3 ?sa3 ?in3 ?ti3 ?nf3 ?il3 ?ic3 ?ik3 ?kx4 ?bp4 ?tp4 ?lk4 ?rf4 ?sa4 ?in4 ?ti4 ?nf4 ?il4 ?ic4 ?ik4 ?kx5 ?bp5 ?tp5 ?lk5 ?rf5 ?sa5 ?in5 ?ti5 ?nf5 ?il5 ?ic5 ?ik5 ?kx6 ?bp6 ?tp6 ?lk6 ?rf6 ?sa6 ?in6 ?ti6 ?nf6 ?il6 ?ic6 ?ik6 ?pg7 ?hd7 ?po7 ?sa7 ?na7__steps ?na7__people ?a0 ?l0 ?c0 ?k0 ?a1 ?l1 ?c1 ?k1 ?a2 ?l2 ?c2 ?k2 ?a3 ?l3 ?c3 ?k3 ?a4 ?l4 ?c4 ?k4 ?a5 ?l5 ?c5 ?k5 ?a6 ?l6 ?c6 ?k6 ?a7 ?l7 ?c7 ?k7 ?a8 ?i8 ?mk8 ?kc8 ?l8 ?c8 ?k8 ?pa9 ?pt9 ?pk9 ?pr9 ?l9 ?c9 ?k9 ?a10 ?i10 ?l10 ?c10 ?k10 ?a11 ?i11 ?l11 ?c11 ?k11 ?a12 ?i12 ?l12 ?c12 ?k12 ?a13 ?i13 ?l13 ?c13 ?k13 ?a14 ?i14 ?l14 ?c14 ?k14 ?a15 ?i15 ?l15 ?c15 ?k15 ?a16 ?i16 ?l16 ?c16 ?k16 ?a17 ?l17 ?c17 ?k17 ?a18 ?l18 ?c18 ?k18 ?a19 ?l19 ?c19 ?k19 ?a20 ?l20 ?c20 ?k20 ?a21 ?l21 ?c21 ?k21 ?a22 ?l22 ?c22 ?k22 ?a23 ?l23 ?c23 ?k23 ?a24 ?l24 ?c24 ?k24 ?a25 ?l25 ?c25 ?k25 ?a26 ?i26 ?l26 ?c26 ?k26 ?a27 ?l27 ?c27 ?k27 ?qx1 ?qx2 ?qx3 ?qx4 ?qx5 ?qx6 ?xf3 ?xf4 ?xf5 ?xf6 ?z_abs ?z_all ?z_enumerate ?z_int ?z_isinstance ?z_len ?z_list ?z_max ?z_min ?z_range ?z_repr ?z_str ?z_tuple ?g_MOST_LETTERS ?g_MOST_PEOPLE ?g_MOST_STEPS
    (case ca0 => first | k_is | kernel_rfl)
    (case ca1 => first | k_is | kernel_rfl)
    (case ca2 => first | k_is | kernel_rfl)
    (case ca3 => first | k_is | kernel_rfl)
    (case ca4 => first | k_is | kernel_rfl)
    (case ca5 => first | k_is | kernel_rfl)
    (case ca6 => first | k_is | kernel_rfl)
    (case ca7 => first | k_is | kernel_rfl)
    (case kx1 => first | k_is | kernel_rfl)
    (case bp1 => first | k_is | kernel_rfl)
    (case tp1 => first | k_is | kernel_rfl)
    (case xp1 => first | k_is | kernel_rfl)
    (case kx2 => first | k_is | kernel_rfl)
    (case bp2 => first | k_is | kernel_rfl)
    (case tp2 => first | k_is | kernel_rfl)
    (case xp2 => first | k_is | kernel_rfl)
    (case kx3 => first | k_is | kernel_rfl)
    (case bp3 => first | k_is | kernel_rfl)
    (case tp3 => first | k_is | kernel_rfl)
    (case lk3 => first | k_is | kernel_rfl)
    (case rf3 => first | k_is | kernel_rfl)
    (case sa3 => first | k_is | kernel_rfl)
    (case in3 => first | k_is | kernel_rfl)
    (case ti3 => first | k_is | kernel_rfl)
    (case nf3 => first | k_is | kernel_rfl)
    (case il3 => first | k_is | kernel_rfl)
    (case ic3 => first | k_is | kernel_rfl)
    (case ik3 => first | k_is | kernel_rfl)
    (case kx4 => first | k_is | kernel_rfl)
    (case bp4 => first | k_is | kernel_rfl)
    (case tp4 => first | k_is | kernel_rfl)
    (case lk4 => first | k_is | kernel_rfl)
    (case rf4 => first | k_is | kernel_rfl)
    (case sa4 => first | k_is | kernel_rfl)
    (case in4 => first | k_is | kernel_rfl)
    (case ti4 => first | k_is | kernel_rfl)
    (case nf4 => first | k_is | kernel_rfl)
    (case il4 => first | k_is | kernel_rfl)
    (case ic4 => first | k_is | kernel_rfl)
    (case ik4 => first | k_is | kernel_rfl)
    (case kx5 => first | k_is | kernel_rfl)
    (case bp5 => first | k_is | kernel_rfl)
    (case tp5 => first | k_is | kernel_rfl)
    (case lk5 => first | k_is | kernel_rfl)
    (case rf5 => first | k_is | kernel_rfl)
    (case sa5 => first | k_is | kernel_rfl)
    (case in5 => first | k_is | kernel_rfl)
    (case ti5 => first | k_is | kernel_rfl)
    (case nf5 => first | k_is | kernel_rfl)
    (case il5 => first | k_is | kernel_rfl)
    (case ic5 => first | k_is | kernel_rfl)
    (case ik5 => first | k_is | kernel_rfl)
    (case kx6 => first | k_is | kernel_rfl)
    (case bp6 => first | k_is | kernel_rfl)
    (case tp6 => first | k_is | kernel_rfl)
    (case lk6 => first | k_is | kernel_rfl)
    (case rf6 => first | k_is | kernel_rfl)
    (case sa6 => first | k_is | kernel_rfl)
    (case in6 => first | k_is | kernel_rfl)
    (case ti6 => first | k_is | kernel_rfl)
    (case nf6 => first | k_is | kernel_rfl)
    (case il6 => first | k_is | kernel_rfl)
    (case ic6 => first | k_is | kernel_rfl)
    (case ik6 => first | k_is | kernel_rfl)
    (case pg7 => first | k_is | kernel_rfl)
    (case hd7 => first | k_is | kernel_rfl)
    (case po7 => first | k_is | kernel_rfl)
    (case sa7 => first | k_is | kernel_rfl)
    (case na7__steps => first | k_is | kernel_rfl)
    (case na7__people => first | k_is | kernel_rfl)
    (case a0 => first | k_is | kernel_rfl)
    (case l0 => first | k_is | kernel_rfl)
    (case c0 => first | k_is | kernel_rfl)
    (case k0 => first | k_is | kernel_rfl)
    (case a1 => first | k_is | kernel_rfl)
    (case l1 => first | k_is | kernel_rfl)
    (case c1 => first | k_is | kernel_rfl)
    (case k1 => first | k_is | kernel_rfl)
    (case a2 => first | k_is | kernel_rfl)
    (case l2 => first | k_is | kernel_rfl)
    (case c2 => first | k_is | kernel_rfl)
    (case k2 => first | k_is | kernel_rfl)
    (case a3 => first | k_is | kernel_rfl)
    (case l3 => first | k_is | kernel_rfl)
    (case c3 => first | k_is | kernel_rfl)
    (case k3 => first | k_is | kernel_rfl)
    (case a4 => first | k_is | kernel_rfl)
    (case l4 => first | k_is | kernel_rfl)
    (case c4 => first | k_is | kernel_rfl)
    (case k4 => first | k_is | kernel_rfl)
    (case a5 => first | k_is | kernel_rfl)
    (case l5 => first | k_is | kernel_rfl)
    (case c5 => first | k_is | kernel_rfl)
    (case k5 => first | k_is | kernel_rfl)
    (case a6 => first | k_is | kernel_rfl)
    (case l6 => first | k_is | kernel_rfl)
    (case c6 => first | k_is | kernel_rfl)
    (case k6 => first | k_is | kernel_rfl)
    (case a7 => first | k_is | kernel_rfl)
    (case l7 => first | k_is | kernel_rfl)
    (case c7 => first | k_is | kernel_rfl)
    (case k7 => first | k_is | kernel_rfl)
    (case a8 => first | k_is | kernel_rfl)
    (case i8 => first | k_is | kernel_rfl)
    (case mk8 => first | k_is | kernel_rfl)
    (case kc8 => first | k_is | kernel_rfl)
    (case l8 => first | k_is | kernel_rfl)
    (case c8 => first | k_is | kernel_rfl)
    (case k8 => first | k_is | kernel_rfl)
    (case pa9 => first | k_is | kernel_rfl)
    (case pt9 => first | k_is | kernel_rfl)
    (case pk9 => first | k_is | kernel_rfl)
    (case pr9 => first | k_is | kernel_rfl)
    (case l9 => first | k_is | kernel_rfl)
    (case c9 => first | k_is | kernel_rfl)
    (case k9 => first | k_is | kernel_rfl)
    (case a10 => first | k_is | kernel_rfl)
    (case i10 => first | k_is | kernel_rfl)
    (case l10 => first | k_is | kernel_rfl)
    (case c10 => first | k_is | kernel_rfl)
    (case k10 => first | k_is | kernel_rfl)
    (case a11 => first | k_is | kernel_rfl)
    (case i11 => first | k_is | kernel_rfl)
    (case l11 => first | k_is | kernel_rfl)
    (case c11 => first | k_is | kernel_rfl)
    (case k11 => first | k_is | kernel_rfl)
    (case a12 => first | k_is | kernel_rfl)
    (case i12 => first | k_is | kernel_rfl)
    (case l12 => first | k_is | kernel_rfl)
    (case c12 => first | k_is | kernel_rfl)
    (case k12 => first | k_is | kernel_rfl)
    (case a13 => first | k_is | kernel_rfl)
    (case i13 => first | k_is | kernel_rfl)
    (case l13 => first | k_is | kernel_rfl)
    (case c13 => first | k_is | kernel_rfl)
    (case k13 => first | k_is | kernel_rfl)
    (case a14 => first | k_is | kernel_rfl)
    (case i14 => first | k_is | kernel_rfl)
    (case l14 => first | k_is | kernel_rfl)
    (case c14 => first | k_is | kernel_rfl)
    (case k14 => first | k_is | kernel_rfl)
    (case a15 => first | k_is | kernel_rfl)
    (case i15 => first | k_is | kernel_rfl)
    (case l15 => first | k_is | kernel_rfl)
    (case c15 => first | k_is | kernel_rfl)
    (case k15 => first | k_is | kernel_rfl)
    (case a16 => first | k_is | kernel_rfl)
    (case i16 => first | k_is | kernel_rfl)
    (case l16 => first | k_is | kernel_rfl)
    (case c16 => first | k_is | kernel_rfl)
    (case k16 => first | k_is | kernel_rfl)
    (case a17 => first | k_is | kernel_rfl)
    (case l17 => first | k_is | kernel_rfl)
    (case c17 => first | k_is | kernel_rfl)
    (case k17 => first | k_is | kernel_rfl)
    (case a18 => first | k_is | kernel_rfl)
    (case l18 => first | k_is | kernel_rfl)
    (case c18 => first | k_is | kernel_rfl)
    (case k18 => first | k_is | kernel_rfl)
    (case a19 => first | k_is | kernel_rfl)
    (case l19 => first | k_is | kernel_rfl)
    (case c19 => first | k_is | kernel_rfl)
    (case k19 => first | k_is | kernel_rfl)
    (case a20 => first | k_is | kernel_rfl)
    (case l20 => first | k_is | kernel_rfl)
    (case c20 => first | k_is | kernel_rfl)
    (case k20 => first | k_is | kernel_rfl)
    (case a21 => first | k_is | kernel_rfl)
    (case l21 => first | k_is | kernel_rfl)
    (case c21 => first | k_is | kernel_rfl)
    (case k21 => first | k_is | kernel_rfl)
    (case a22 => first | k_is | kernel_rfl)
    (case l22 => first | k_is | kernel_rfl)
    (case c22 => first | k_is | kernel_rfl)
    (case k22 => first | k_is | kernel_rfl)
    (case a23 => first | k_is | kernel_rfl)
    (case l23 => first | k_is | kernel_rfl)
    (case c23 => first | k_is | kernel_rfl)
    (case k23 => first | k_is | kernel_rfl)
    (case a24 => first | k_is | kernel_rfl)
    (case l24 => first | k_is | kernel_rfl)
    (case c24 => first | k_is | kernel_rfl)
    (case k24 => first | k_is | kernel_rfl)
    (case a25 => first | k_is | kernel_rfl)
    (case l25 => first | k_is | kernel_rfl)
    (case c25 => first | k_is | kernel_rfl)
    (case k25 => first | k_is | kernel_rfl)
    (case a26 => first | k_is | kernel_rfl)
    (case i26 => first | k_is | kernel_rfl)
    (case l26 => first | k_is | kernel_rfl)
    (case c26 => first | k_is | kernel_rfl)
    (case k26 => first | k_is | kernel_rfl)
    (case a27 => first | k_is | kernel_rfl)
    (case l27 => first | k_is | kernel_rfl)
    (case c27 => first | k_is | kernel_rfl)
    (case k27 => first | k_is | kernel_rfl)
    (case z_abs => first | k_is | kernel_rfl)
    (case z_all => first | k_is | kernel_rfl)
    (case z_enumerate => first | k_is | kernel_rfl)
    (case z_int => first | k_is | kernel_rfl)
    (case z_isinstance => first | k_is | kernel_rfl)
    (case z_len => first | k_is | kernel_rfl)
    (case z_list => first | k_is | kernel_rfl)
    (case z_max => first | k_is | kernel_rfl)
    (case z_min => first | k_is | kernel_rfl)
    (case z_range => first | k_is | kernel_rfl)
    (case z_repr => first | k_is | kernel_rfl)
    (case z_str => first | k_is | kernel_rfl)
    (case z_tuple => first | k_is | kernel_rfl)
    (case g_MOST_LETTERS => first | k_is | kernel_rfl)
    (case g_MOST_PEOPLE => first | k_is | kernel_rfl)
    (case g_MOST_STEPS => first | k_is | kernel_rfl)
    (case qx1 => kernel_rfl)
    (case qx2 => kernel_rfl)
    (case qx3 => kernel_rfl)
    (case qx4 => kernel_rfl)
    (case qx5 => kernel_rfl)
    (case qx6 => kernel_rfl)
    (case xf3 => kernel_rfl)
    (case xf4 => kernel_rfl)
    (case xf5 => kernel_rfl)
    (case xf6 => kernel_rfl)

