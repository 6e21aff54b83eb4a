import PyProof.Rows.All
import Wide.All
import OpenK.AllK
import Wide.FinOn
import HandS.ForMost
import HandS.ForExc
import HandS.ExcInit
import HandS.ExcField
import HandS.OwnEq
import HandS.Deep
import HandS.TupAny
import HandS.IsInst
import HandS.Wide
import HandS.Small
import HandS.Property
import HandS.ExcValue
import HandS.ExcIs
import KE.KExcIs
import KE.DataFind
import HandS.TupMul
import KE.KRevSl
import HandS.Zip
import KE.GoesEnum
import HandS.NoneIn
import HandS.Strs
import HandS.Style
import HandS.GenList
import HandS.GenYield
import KE.DataMinMax
import HandS.SortKw
import HandS.SetKeys
import HandS.SetBool
import KE.DataAny
import HandS.TupSets
import HandS.SetFor
import KE.SortData
import PySem.Challenge.RW_unlikehands_k07_rules_kept
set_option Elab.async false
set_option linter.all false
set_option maxRecDepth 100000
set_option maxHeartbeats 4100000
namespace Vm
open L2 PyProof.Rows PySem PySem.Spec

/-! ### a mirror's values and heap: places in place of addresses -/
inductive U where
  | non | bl (b : Bool) | int (i : Int) | str (x : Str) | loc (n : Nat) | scr | exn | dat (d : PyData) | obj (c : Nat) (fs : List (Str × U)) | pr (ds : List PyData)
inductive O where
  | lst (xs : List U) | tup (xs : List U) | tpl (xs : List U) | ins (c : Nat) (fs : List (Str × U)) | exc (c : Nat) (fs : List (Str × U)) | ded
abbrev Mh := List O
inductive R (α : Type) where
  | ok (a : α) (h : Mh) | ex (c : Nat) (f : List (Str × U)) (h : Mh) | stuck
def R.bind {α β : Type} (r : R α) (f : α → Mh → R β) : R β := match r with
  | .ok a h => f a h
  | .ex c g h => .ex c g h
  | .stuck => .stuck
abbrev Sl := List (Option U)
abbrev Me := Sl → Mh → R U

/-- what is fixed through a law's call: the classes' addresses, the written part, the script -/
structure Gc where
  cl : Nat → Addr
  K : PySem.W.Frag
  sa : Addr
  ns : List Int
  exn : Option (Addr × Addr × List (Str × U)) := none

/-- a world: the mirror's objects in their order; what is frozen for ever; what is locked for now -/
structure Wd where
  as : List Addr
  fz : Hp
  lk : Hp
structure Wd.Le (r r' : Wd) : Prop where
  as : r.as <+: r'.as
  fz : ∀ a o, r.fz a = some o → r'.fz a = some o
  lk : r'.lk = r.lk
  nw : ∀ a, r.fz a = none → r.lk a ≠ none → r'.fz a = none
/-- as far as values hang on it -/
structure Wd.Lx (r r' : Wd) : Prop where
  as : r.as <+: r'.as
  fz : ∀ a o, r.fz a = some o → r'.fz a = some o
theorem Wd.Le.lx {r r' : Wd} (e : Wd.Le r r') : Wd.Lx r r' := ⟨e.as, e.fz⟩
theorem Wd.Lx.trans {r r' r2 : Wd} (e : Wd.Lx r r') (e' : Wd.Lx r' r2) : Wd.Lx r r2 := ⟨e.as.trans e'.as, fun a o h => e'.fz a o (e.fz a o h)⟩
theorem Wd.refl (r : Wd) : Wd.Le r r := ⟨List.prefix_refl _, fun _ _ h => h, rfl, fun _ h _ => h⟩
theorem Wd.Le.trans {r r' r2 : Wd} (e : Wd.Le r r') (e' : Wd.Le r' r2) : Wd.Le r r2 :=
  ⟨e.as.trans e'.as, fun a o h => e'.fz a o (e.fz a o h), e'.lk.trans e.lk, fun a h1 h2 => e'.nw a (e.nw a h1 h2) (by rw [e.lk]; exact h2)⟩
def Wd.snoc (r : Wd) (p : Addr) : Wd := ⟨r.as ++ [p], r.fz, r.lk⟩
def comp : PyData → Bool
  | .list _ => true
  | .tuple _ => true
  | _ => false
/-- an exact tuple: one made, or a constant of the module -/
def DT (K : PySem.W.Frag) (H : Hp) (a : Addr) (xs : List V) : Prop := (∃ o, H a = some (.frz o (.tup xs)) ∧ o.dict = none) ∨
  ∃ (o : Obj) (its : Array Value) (n : Nat), K.lookup a = some o ∧ o.cls = .type "tuple" ∧ o.dict = none ∧ o.data = .seq its n ∧ its.size ≤ sizeLine ∧ Vals xs its.toList
theorem DT.sq {K : PySem.W.Frag} {H : Hp} {a : Addr} {xs : List V} (h : DT K H a xs) : SqT K H a xs := by
  rcases h with ⟨o, h, _⟩ | ⟨o, its, n, h1, h2, _, h3, h4, h5⟩
  · exact .inl (.inr ⟨o, h⟩)
  · exact .inr ⟨o, its, n, h1, h2, h3, h4, h5⟩
mutual
/-- data whose lists are no constants of the module -/
inductive Dq (K : PySem.W.Frag) (H : Hp) : V → PyData → Prop
  | non : Dq K H .non .none
  | bl (b : Bool) : Dq K H (.bl b) (.bool b)
  | int (i : Int) : Dq K H (.int i) (.int i)
  | str (x : Str) : Dq K H (.str x) (.str x)
  | lst {a : Addr} {xs : List V} {ds : List PyData} : H a = some (.lst xs) → DqAll K H xs ds → Dq K H (.ref a) (.list ds)
  | tup {a : Addr} {xs : List V} {ds : List PyData} : DT K H a xs → DqAll K H xs ds → Dq K H (.ref a) (.tuple ds)
inductive DqAll (K : PySem.W.Frag) (H : Hp) : List V → List PyData → Prop
  | nil : DqAll K H [] []
  | cons {v : V} {vs : List V} {d : PyData} {ds : List PyData} : Dq K H v d → DqAll K H vs ds → DqAll K H (v :: vs) (d :: ds)
end
/-- the number that stands for dicts with texts for keys -/
def dctNo : Nat := 1000000
mutual
/-- a frozen thing: data, an instance of an own class, or a dict -/
inductive Ro (K : PySem.W.Frag) (cl : Nat → Addr) (H : Hp) : U → V → Prop
  | non : Ro K cl H .non .non
  | bl (b : Bool) : Ro K cl H (.bl b) (.bl b)
  | int (i : Int) : Ro K cl H (.int i) (.int i)
  | str (x : Str) : Ro K cl H (.str x) (.str x)
  | dat {d : PyData} {v : V} : comp d = true → Dq K H v d → Ro K cl H (.dat d) v
  | obj {c : Nat} {fs : List (Str × U)} {a dx : Addr} {gs : List (Str × V)} : c ≠ dctNo → H a = some (.ins (cl c) dx gs) → Rof K cl H fs gs → Ro K cl H (.obj c fs) (.ref a)
  | dct {fs : List (Str × U)} {a : Addr} {gs : List (Str × V)} : H a = some (.dK (gs.map fun p => (Sum.inr p.1, p.2))) → Rof K cl H fs gs → Ro K cl H (.obj dctNo fs) (.ref a)
inductive Rof (K : PySem.W.Frag) (cl : Nat → Addr) (H : Hp) : List (Str × U) → List (Str × V) → Prop
  | nil : Rof K cl H [] []
  | cons {n : Str} {u : U} {v : V} {fs : List (Str × U)} {gs : List (Str × V)} : Ro K cl H u v → Rof K cl H fs gs → Rof K cl H ((n, u) :: fs) ((n, v) :: gs)
end
abbrev Hle (H H' : Hp) : Prop := ∀ a o, H a = some o → H' a = some o
theorem SqL.hle {K : PySem.W.Frag} {H H' : Hp} {a : Addr} {xs : List V} (h : SqL K H a xs) (e : Hle H H') : SqL K H' a xs := by
  rcases h with (h
                   | ⟨o, h⟩) | h
  · exact .inl (.inl (e _ _ h))
  · exact .inl (.inr
                     ⟨o, e _ _ h⟩)
  · exact .inr h
theorem SqT.hle {K : PySem.W.Frag} {H H' : Hp} {a : Addr} {xs : List V} (h : SqT K H a xs) (e : Hle H H') : SqT K H' a xs := by
  rcases h with (h
                   | ⟨o, h⟩) | h
  · exact .inl (.inl (e _ _ h))
  · exact .inl (.inr
                     ⟨o, e _ _ h⟩)
  · exact .inr h
theorem DT.hle {K : PySem.W.Frag} {H H' : Hp} {a : Addr} {xs : List V} (h : DT K H a xs) (e : Hle H H') : DT K H' a xs := by
  rcases h with ⟨o, h, d⟩ | h
  · exact .inl ⟨o, e _ _ h, d⟩
  · exact .inr h
mutual
theorem Dq.hle {K : PySem.W.Frag} {H H' : Hp} (e : Hle H H') : ∀ (d : PyData) (v : V), Dq K H v d → Dq K H' v d
  | .none, _, h => by cases h; exact .non
  | .bool b, _, h => by cases h; exact .bl b
  | .int i, _, h => by cases h; exact .int i
  | .str x, _, h => by cases h; exact .str x
  | .list ds, _, h => by
    cases h with
    | lst hs ha => exact .lst (e _ _ hs) (DqAll.hle e ds _ ha)
  | .tuple ds, _, h => by
    cases h with
    | tup hs ha => exact .tup (DT.hle hs e) (DqAll.hle e ds _ ha)
  | .dict _, _, h => by cases h
theorem DqAll.hle {K : PySem.W.Frag} {H H' : Hp} (e : Hle H H') : ∀ (ds : List PyData) (vs : List V), DqAll K H vs ds → DqAll K H' vs ds
  | [], _, h => by cases h; exact .nil
  | d :: ds, _, h => by
    cases h with
    | cons h1 h2 => exact .cons (Dq.hle e d _ h1) (DqAll.hle e ds _ h2)
end
mutual
theorem Dq.dp {K : PySem.W.Frag} {H : Hp} : ∀ (d : PyData) (v : V), Dq K H v d → Dp K H v d
  | .none, _, h => by cases h; exact .non
  | .bool b, _, h => by cases h; exact .bl b
  | .int i, _, h => by cases h; exact .int i
  | .str x, _, h => by cases h; exact .str x
  | .list ds, _, h => by
    cases h with
    | lst hs ha => exact .lst (SqL.of hs) (DqAll.dp ds _ ha)
  | .tuple ds, _, h => by
    cases h with
    | tup hs ha => exact .tup hs.sq (DqAll.dp ds _ ha)
  | .dict _, _, h => by cases h
theorem DqAll.dp {K : PySem.W.Frag} {H : Hp} : ∀ (ds : List PyData) (vs : List V), DqAll K H vs ds → DpAll K H vs ds
  | [], _, h => by cases h; exact .nil
  | d :: ds, _, h => by
    cases h with
    | cons h1 h2 => exact .cons (Dq.dp d _ h1) (DqAll.dp ds _ h2)
end
mutual
theorem Ro.hle {K : PySem.W.Frag} {cl : Nat → Addr} {H H' : Hp} (e : Hle H H') : ∀ {u : U} {v : V}, Ro K cl H u v → Ro K cl H' u v
  | _, _, .non => .non
  | _, _, .bl b => .bl b
  | _, _, .int b => .int b
  | _, _, .str b => .str b
  | _, _, .dat k h => .dat k (Dq.hle e _ _ h)
  | _, _, .obj n h hf => .obj n (e _ _ h) (Rof.hle e hf)
  | _, _, .dct h hf => .dct (e _ _ h) (Rof.hle e hf)
theorem Rof.hle {K : PySem.W.Frag} {cl : Nat → Addr} {H H' : Hp} (e : Hle H H') : ∀ {us : List (Str × U)} {vs : List (Str × V)}, Rof K cl H us vs → Rof K cl H' us vs
  | _, _, .nil => .nil
  | _, _, .cons h hf => .cons (Ro.hle e h) (Rof.hle e hf)
end
def Rl (g : Gc) (ρ : Wd) : U → V → Prop
  | .non, v => v = .non
  | .bl b, v => v = .bl b
  | .int i, v => v = .int i
  | .str x, v => v = .str x
  | .loc n, v => ∃ a, ρ.as[n]? = some a ∧ v = .ref a
  | .scr, v => v = .ref g.sa
  | .exn, v => ∃ a dd fs, g.exn = some (a, dd, fs) ∧ v = .ref a
  | .dat d, v => comp d = true ∧ Dq g.K ρ.fz v d
  | .obj c fs, v => Ro g.K g.cl ρ.fz (.obj c fs) v
  | .pr ds, v => ∃ a vs, v = .ref a ∧ ρ.fz a = some (.tup vs) ∧ DqAll g.K ρ.fz vs ds
abbrev Rls (g : Gc) (ρ : Wd) : List U → List V → Prop := Paired (Rl g ρ)
def Rf (g : Gc) (ρ : Wd) : List (Str × U) → List (Str × V) → Prop := Paired fun p q => p.1 = q.1 ∧ Rl g ρ p.2 q.2
def Rol (g : Gc) (ρ : Wd) : Option U → Option V → Prop
  | some w, some v => Rl g ρ w v
  | none, _ => True
  | some _, none => False
abbrev Rsl (g : Gc) (ρ : Wd) : Sl → L2.St → Prop := Paired (Rol g ρ)
def Om (g : Gc) (ρ : Wd) (H : Hp) (a : Addr) : O → Prop
  | .lst xs => ∃ vs, Rls g ρ xs vs ∧ H a = some (.lst vs)
  | .tup xs => ∃ vs o, Rls g ρ xs vs ∧ o.dict = none ∧ H a = some (.frz o (.tup vs))
  | .tpl xs => ∃ vs, Rls g ρ xs vs ∧ H a = some (.tup vs)
  | .ins c fs => ∃ dx gs, Rf g ρ fs gs ∧ H a = some (.ins (g.cl c) dx gs)
  | .exc c fs => (fs = [] ∧ H a = some (exo a (g.cl c) none)) ∨ ∃ dx gs, Rf g ρ fs gs ∧ H a = some (exo a (g.cl c) (some dx)) ∧ H dx = some (exd dx gs)
  | .ded => ∃ u, H a = some u
/-- the script: locked, or of the written part -/
def Scr (g : Gc) (H : Hp) : Prop := (∃ o, H g.sa = some (.frz o (.lst (g.ns.map V.int)))) ∨
  ∃ (o : Obj) (its : Array Value) (n : Nat), g.K.lookup g.sa = some o ∧ o.cls = .type "list" ∧ o.dict = none ∧ o.data = .seq its n ∧ its.size ≤ sizeLine ∧ Vals (g.ns.map V.int) its.toList
structure Cs (g : Gc) (ρ : Wd) (h : Mh) (H : Hp) : Prop where
  len : ρ.as.length = h.length
  at_ : ∀ (n : Nat) (o : O) (a : Addr), h[n]? = some o → ρ.as[n]? = some a → Om g ρ H a o
  inj : ρ.as.Nodup
  scr : Scr g H
  xn : ∀ a dd fs, g.exn = some (a, dd, fs) → ∃ gs, Rf g ρ fs gs ∧ H dd = some (.xd gs)
  fzH : Hle ρ.fz H
  lkH : Hle ρ.lk H
  apt : ∀ (n : Nat) (o : O) (a : Addr), h[n]? = some o → ρ.as[n]? = some a → ρ.lk a = none ∧ (o ≠ .ded → ρ.fz a = none)
  nfl : ∀ a o xs, ρ.fz a ≠ some (.frz o (.lst xs))

section
variable {g : Gc} {ρ ρ' : Wd} {h h' : Mh} {H H' : Hp}

theorem pre_getx {n : Nat} {a : Addr} (e : Wd.Lx ρ ρ') (q : ρ.as[n]? = some a) : ρ'.as[n]? = some a := by
  obtain ⟨t, ht⟩ := e.as
  obtain ⟨hl, _⟩ := List.getElem?_eq_some_iff.mp q
  rw [← ht, List.getElem?_append_left hl]
  exact q
theorem pre_get {n : Nat} {a : Addr} (e : Wd.Le ρ ρ') (q : ρ.as[n]? = some a) : ρ'.as[n]? = some a := pre_getx e.lx q
theorem Rl.mx {u : U} {v : V} (e : Wd.Lx ρ ρ') (r : Rl g ρ u v) : Rl g ρ' u v := by
  cases u with
  | loc n =>
    obtain ⟨a, q, rfl⟩ := r
    exact ⟨a, pre_getx e q, rfl⟩
  | dat d => exact ⟨r.1, Dq.hle e.fz _ _ r.2⟩
  | obj c fs => exact Ro.hle e.fz r
  | pr ds => obtain ⟨a, vs, q, q1, q2⟩ := r; exact ⟨a, vs, q, e.fz _ _ q1, DqAll.hle e.fz _ _ q2⟩
  | _ => exact r
theorem Rl.mono {u : U} {v : V} (e : Wd.Le ρ ρ') (r : Rl g ρ u v) : Rl g ρ' u v := Rl.mx e.lx r
theorem Rls.mx {us : List U} {vs : List V} (e : Wd.Lx ρ ρ') (r : Rls g ρ us vs) : Rls g ρ' us vs := Paired.mapP r fun _ _ q => Rl.mx e q
theorem Rf.mx {us : List (Str × U)} {vs : List (Str × V)} (e : Wd.Lx ρ ρ') (r : Rf g ρ us vs) : Rf g ρ' us vs := Paired.mapP r fun _ _ q => ⟨q.1, Rl.mx e q.2⟩
theorem Rls.mono {us : List U} {vs : List V} (e : Wd.Le ρ ρ') (r : Rls g ρ us vs) : Rls g ρ' us vs := Paired.mapP r fun _ _ q => Rl.mono e q
theorem Rf.mono {us : List (Str × U)} {vs : List (Str × V)} (e : Wd.Le ρ ρ') (r : Rf g ρ us vs) : Rf g ρ' us vs := Paired.mapP r fun _ _ q => ⟨q.1, Rl.mono e q.2⟩
theorem Rol.mono {u : Option U} {v : Option V} (e : Wd.Le ρ ρ') (r : Rol g ρ u v) : Rol g ρ' u v := by
  cases u with
  | none => trivial
  | some w =>
    cases v with
    | none => exact r
    | some v => exact Rl.mono e r
theorem Rsl.mono {us : Sl} {vs : L2.St} (e : Wd.Le ρ ρ') (r : Rsl g ρ us vs) : Rsl g ρ' us vs := Paired.mapP r fun _ _ q => Rol.mono e q
theorem Paired.get {α β : Type} {F : α → β → Prop} : ∀ {xs : List α} {ys : List β} {i : Nat} {x : α}, Paired F xs ys → xs[i]? = some x → ∃ y, ys[i]? = some y ∧ F x y
  | _, _, _, _, .nil, here => by simp at here
  | _, _, 0, _, .cons r _, here => by simp at here; subst here; exact ⟨_, rfl, r⟩
  | _, _, i + 1, x, .cons _ t, e => id <| by
    obtain ⟨u, h1, h2⟩ := Paired.get (i := i) (x := x) t (by simpa using e); exact ⟨u, by simpa using h1, h2⟩
theorem Paired.set {α β : Type} {F : α → β → Prop} {x : α} {y : β} (q : F x y) : ∀ {xs : List α} {ys : List β} (i : Nat), Paired F xs ys → Paired F (xs.set i x) (ys.set i y)
  | _, _, _, .nil => .nil
  | _, _, 0, .cons _ t => .cons q t
  | _, _, i + 1, .cons r t => .cons r (Paired.set q i t)
theorem Paired.app {α β : Type} {F : α → β → Prop} : ∀ {xs zs : List α} {ys ws : List β}, Paired F xs ys → Paired F zs ws → Paired F (xs ++ zs) (ys ++ ws)
  | _, _, _, _, .nil, s => s
  | _, _, _, _, .cons r t, s => .cons r (Paired.app t s)
theorem Paired.dropP {α β : Type} {F : α → β → Prop} : ∀ {xs : List α} {ys : List β} (n : Nat), Paired F xs ys → Paired F (xs.drop n) (ys.drop n)
  | _, _, 0, r => r
  | _, _, _ + 1, .nil => .nil
  | _, _, n + 1, .cons _ t => Paired.dropP n t
theorem Paired.takeP {α β : Type} {F : α → β → Prop} : ∀ {xs : List α} {ys : List β} (n : Nat), Paired F xs ys → Paired F (xs.take n) (ys.take n)
  | _, _, 0, _ => .nil
  | _, _, _ + 1, .nil => .nil
  | _, _, n + 1, .cons r t => .cons r (Paired.takeP n t)
theorem Paired.rep {α β : Type} {F : α → β → Prop} {x : α} {y : β} (q : F x y) : ∀ n : Nat, Paired F (List.replicate n x) (List.replicate n y)
  | 0 => .nil
  | n + 1 => .cons q (Paired.rep q n)
theorem Rls.somes {us : List U} {vs : List V} : Rls g ρ us vs → Rsl g ρ (us.map some) (vs.map some) := fun r => by
  induction r with
  | nil => exact .nil
  | cons q _ ih => exact .cons q ih

theorem Cs.get (c : Cs g ρ h H) {n : Nat} {o : O} (e : h[n]? = some o) : ∃ a, ρ.as[n]? = some a ∧ Om g ρ H a o := by
  have hl : n < ρ.as.length := by
    rw [c.len]; exact (List.getElem?_eq_some_iff.mp e).1
  exact ⟨ρ.as[n], List.getElem?_eq_getElem hl, c.at_ n o _ e (List.getElem?_eq_getElem hl)⟩
theorem Cs.lst (c : Cs g ρ h H) {n : Nat} {xs : List U} {v : V} (e : h[n]? = some (.lst xs)) (r : Rl g ρ (.loc n) v) : ∃ a vs, v = .ref a ∧ ρ.as[n]? = some a ∧ Rls g ρ xs vs ∧ H a = some (.lst vs) := by
  obtain ⟨a, q, rfl⟩ := r
  obtain ⟨vs, rv, eh⟩ := c.at_ n _ a e q
  exact ⟨a, vs, rfl, q, rv, eh⟩
theorem Cs.tup (c : Cs g ρ h H) {n : Nat} {xs : List U} {v : V} (e : h[n]? = some (.tup xs)) (r : Rl g ρ (.loc n) v) : ∃ a vs o, v = .ref a ∧ ρ.as[n]? = some a ∧ Rls g ρ xs vs ∧ o.dict = none ∧ H a = some (.frz o (.tup vs)) := by
  obtain ⟨a, q, rfl⟩ := r
  obtain ⟨vs, o, rv, d, eh⟩ := c.at_ n _ a e q
  exact ⟨a, vs, o, rfl, q, rv, d, eh⟩
theorem Cs.tpl (c : Cs g ρ h H) {n : Nat} {xs : List U} {v : V} (e : h[n]? = some (.tpl xs)) (r : Rl g ρ (.loc n) v) : ∃ a vs, v = .ref a ∧ ρ.as[n]? = some a ∧ Rls g ρ xs vs ∧ H a = some (.tup vs) := by
  obtain ⟨a, q, rfl⟩ := r
  obtain ⟨vs, rv, eh⟩ := c.at_ n _ a e q
  exact ⟨a, vs, rfl, q, rv, eh⟩
theorem Om.some {a : Addr} {o : O} (m : Om g ρ H a o) : ∃ u, H a = some u := by
  cases o with
  | lst xs => obtain ⟨vs, _, e⟩ := m; exact ⟨_, e⟩
  | tup xs => obtain ⟨vs, o, _, _, e⟩ := m; exact ⟨_, e⟩
  | tpl xs => obtain ⟨vs, _, e⟩ := m; exact ⟨_, e⟩
  | ins c fs => obtain ⟨dx, gs, _, e⟩ := m; exact ⟨_, e⟩
  | exc c fs =>
    rcases m with ⟨_, e⟩ | ⟨dx, gs, _, e, _⟩
    · exact ⟨_, e⟩
    · exact ⟨_, e⟩
  | ded => exact m
theorem Cs.trk (c : Cs g ρ h H) {a : Addr} (m : a ∈ ρ.as) : ∃ u, H a = some u := by
  obtain ⟨n, hn, e⟩ := List.getElem_of_mem m
  have hl : n < h.length := by rw [← c.len]; exact hn
  have e2 : ρ.as[n]? = some a := by rw [List.getElem?_eq_getElem hn, e]
  exact (c.at_ n _ a (List.getElem?_eq_getElem hl) e2).some
theorem Om.rx {a : Addr} {o : O} {u : HO} {p : Addr} (e : Wd.Lx ρ ρ') (m : Om g ρ H a o) (hp : a ≠ p) (hx : ∀ φ : Heap → Prop, H p ≠ Option.some (HO.ext φ)) : Om g ρ' (upd H p u) a o := by
  cases o with
  | lst xs => obtain ⟨vs, r, q⟩ := m; exact ⟨vs, Rls.mx e r, by rw [upd_ne hp]; exact q⟩
  | tup xs => obtain ⟨vs, o, r, d, q⟩ := m; exact ⟨vs, o, Rls.mx e r, d, by rw [upd_ne hp]; exact q⟩
  | tpl xs => obtain ⟨vs, r, q⟩ := m; exact ⟨vs, Rls.mx e r, by rw [upd_ne hp]; exact q⟩
  | ins c fs => obtain ⟨dx, gs, r, q⟩ := m; exact ⟨dx, gs, Rf.mx e r, by rw [upd_ne hp]; exact q⟩
  | exc c fs =>
    rcases m with ⟨e0, q⟩ | ⟨dx, gs, r, q, q2⟩
    · exact .inl ⟨e0, by rw [upd_ne hp]; exact q⟩
    · exact .inr ⟨dx, gs, Rf.mx e r, by rw [upd_ne hp]; exact q, by
        rw [upd_ne]
        · exact q2
        · intro z
          rw [z] at q2
          exact hx _ q2⟩
  | ded => obtain ⟨w, q⟩ := m; exact ⟨w, by rw [upd_ne hp]; exact q⟩
theorem Om.ren {a : Addr} {o : O} {u : HO} {p : Addr} (e : Wd.Le ρ ρ') (m : Om g ρ H a o) (hp : a ≠ p) (hx : ∀ φ : Heap → Prop, H p ≠ Option.some (HO.ext φ)) : Om g ρ' (upd H p u) a o := Om.rx e.lx m hp hx
/-- an update where the script is not -/
theorem Scr.upd {p : Addr} {u : HO} (s : Scr g H) (hp : ∀ o w, H p ≠ some (.frz o w)) : Scr g (upd H p u) := by
  rcases s with ⟨o, e⟩ | k
  · refine .inl ⟨o, ?_⟩
    rw [upd_ne]
    · exact e
    · intro z
      rw [z] at e
      exact hp _ _ e
  · exact .inr k
theorem pre_snoc (ρ : Wd) (p : Addr) : Wd.Le ρ (ρ.snoc p) := ⟨⟨[p], rfl⟩, fun _ _ h => h, rfl, fun _ h _ => h⟩
theorem Hle.upd {F H : Hp} {p : Addr} {u : HO} (e : Hle F H) (hp : F p = none) : Hle F (upd H p u) := fun a o q => by
  rw [upd_ne (fun z => by rw [z, hp] at q; cases q)]
  exact e a o q
theorem Hle.free {F H : Hp} {p : Addr} (e : Hle F H) (hp : H p = none) : F p = none := by
  cases q : F p with
  | none => rfl
  | some o => rw [e p o q] at hp; cases hp
/-- a new object -/
theorem Cs.new (c : Cs g ρ h H) {p : Addr} {o : O} {u : HO} (hp : H p = none) (m : Om g (ρ.snoc p) (upd H p u) p o) : Cs g (ρ.snoc p) (h ++ [o]) (upd H p u) := by
  have np : p ∉ ρ.as := fun z => by
    obtain ⟨w, e⟩ := c.trk z
    rw [hp] at e
    cases e
  refine ⟨by rw [show (ρ.snoc p).as = ρ.as ++ [p] from rfl, List.length_append, List.length_append, c.len]; rfl, fun n o' a e1 e2 => ?_, ?_, c.scr.upd (fun o w z => by rw [hp] at z; cases z), fun a dd fs ex => ?_, c.fzH.upd (c.fzH.free hp), c.lkH.upd (c.lkH.free hp), fun n o' a e1 e2 => ?_, c.nfl⟩
  · by_cases hn : n < h.length
    · rw [List.getElem?_append_left hn] at e1
      rw [show (ρ.snoc p).as = ρ.as ++ [p] from rfl, List.getElem?_append_left (by rw [c.len]; exact hn)] at e2
      refine Om.ren (pre_snoc ρ p) (c.at_ n o' a e1 e2) (fun z => ?_) (fun φ z => by rw [hp] at z; cases z)
      exact np (z ▸ List.mem_of_getElem? e2)
    · have hl := (List.getElem?_eq_some_iff.mp e1).1
      rw [List.length_append] at hl
      have hn' : n = h.length := by
        have : [o].length = 1 := rfl
        omega
      subst hn'
      rw [List.getElem?_append_right (Nat.le_refl _), Nat.sub_self] at e1
      rw [show (ρ.snoc p).as = ρ.as ++ [p] from rfl, List.getElem?_append_right (by rw [c.len]; exact Nat.le_refl _), c.len, Nat.sub_self] at e2
      cases e1
      cases e2
      exact m
  · rw [show (ρ.snoc p).as = ρ.as ++ [p] from rfl, List.nodup_append]
    refine ⟨c.inj, by simp, fun a ha b hb => ?_⟩
    have : b = p := by simpa using hb
    subst this
    intro z
    subst z
    exact np ha
  · obtain ⟨gs, r, e⟩ := c.xn a dd fs ex
    refine ⟨gs, Rf.mono (pre_snoc ρ p) r, ?_⟩
    rw [upd_ne]
    · exact e
    · intro z
      rw [z, hp] at e
      cases e
  · by_cases hn : n < h.length
    · rw [List.getElem?_append_left hn] at e1
      rw [show (ρ.snoc p).as = ρ.as ++ [p] from rfl, List.getElem?_append_left (by rw [c.len]; exact hn)] at e2
      exact c.apt n o' a e1 e2
    · have hl := (List.getElem?_eq_some_iff.mp e1).1
      rw [List.length_append] at hl
      have hn' : n = h.length := by
        have : [o].length = 1 := rfl
        omega
      subst hn'
      rw [show (ρ.snoc p).as = ρ.as ++ [p] from rfl, List.getElem?_append_right (by rw [c.len]; exact Nat.le_refl _), c.len, Nat.sub_self] at e2
      cases e2
      exact ⟨c.lkH.free hp, fun _ => c.fzH.free hp⟩
theorem new_get (ρ : Wd) (p : Addr) (c : ρ.as.length = h.length) : (ρ.snoc p).as[h.length]? = some p := by
  rw [← c]
  simp [Wd.snoc]
/-- an address beside the mirror's -/
theorem Cs.skip (c : Cs g ρ h H) {p : Addr} {u : HO} (hp : H p = none) : Cs g ρ h (upd H p u) := by
  have np : p ∉ ρ.as := fun z => by
    obtain ⟨w, e⟩ := c.trk z
    rw [hp] at e
    cases e
  refine ⟨c.len, fun n o' a e1 e2 => Om.ren (Wd.refl ρ) (c.at_ n o' a e1 e2) (fun z => np (z ▸ List.mem_of_getElem? e2)) (fun φ z => by rw [hp] at z; cases z), c.inj, c.scr.upd (fun o w z => by rw [hp] at z; cases z), fun a dd fs ex => ?_, c.fzH.upd (c.fzH.free hp), c.lkH.upd (c.lkH.free hp), c.apt, c.nfl⟩
  obtain ⟨gs, r, e⟩ := c.xn a dd fs ex
  refine ⟨gs, r, ?_⟩
  rw [upd_ne]
  · exact e
  · intro z
    rw [z, hp] at e
    cases e
theorem Cs.live (c : Cs g ρ h H) {n : Nat} {a : Addr} {o : O} (en : h[n]? = some o) (ea : ρ.as[n]? = some a) (hd : o ≠ .ded := by intro z; cases z) : ρ.fz a = none ∧ ρ.lk a = none := ⟨(c.apt n o a en ea).2 hd, (c.apt n o a en ea).1⟩
theorem nfL {a : Addr} {vs : List V} (e : H a = some (.lst vs)) : (∀ o w, H a ≠ some (.frz o w)) ∧ (∀ φ : Heap → Prop, H a ≠ some (HO.ext φ)) ∧ ∀ gs, H a ≠ some (.xd gs) :=
  ⟨fun _ _ z => (by rw [e] at z; cases z), fun _ z => (by rw [e] at z; cases z), fun _ z => (by rw [e] at z; cases z)⟩
/-- a new frozen thing -/
def Wd.frz (r : Wd) (p : Addr) (u : HO) : Wd := ⟨r.as, upd r.fz p u, r.lk⟩
theorem Cs.frz_le (c : Cs g ρ h H) {p : Addr} {u : HO} (hp : H p = none) : Wd.Le ρ (ρ.frz p u) :=
  ⟨List.prefix_refl _, fun a o q => (by show upd ρ.fz p u a = some o; rw [upd_ne (fun z => by rw [z, c.fzH.free hp] at q; cases q)]; exact q), rfl, fun a h1 h2 => (by
    show upd ρ.fz p u a = none
    rw [upd_ne (fun z => by rw [z, c.lkH.free hp] at h2; exact h2 rfl)]
    exact h1)⟩
theorem Cs.newF (c : Cs g ρ h H) {p : Addr} {u : HO} (hp : H p = none) (hu : ∀ o xs, u ≠ .frz o (.lst xs)) : Cs g (ρ.frz p u) h (upd H p u) := by
  have np : p ∉ ρ.as := fun z => by
    obtain ⟨w, e⟩ := c.trk z
    rw [hp] at e
    cases e
  have le := c.frz_le (u := u) hp
  refine ⟨c.len, fun n o' a e1 e2 => Om.ren le (c.at_ n o' a e1 e2) (fun z => np (z ▸ List.mem_of_getElem? e2)) (fun φ z => by rw [hp] at z; cases z), c.inj, c.scr.upd (fun o w z => by rw [hp] at z; cases z), fun a dd fs ex => ?_, fun a o q => ?_, c.lkH.upd (c.lkH.free hp), fun n o' a e1 e2 => ?_, fun a o xs q => ?_⟩
  · obtain ⟨gs, r, e⟩ := c.xn a dd fs ex
    refine ⟨gs, Rf.mono le r, ?_⟩
    rw [upd_ne]
    · exact e
    · intro z
      rw [z, hp] at e
      cases e
  · by_cases z : a = p
    · subst z
      have q : upd ρ.fz a u a = some o := q
      rw [upd_same] at q ⊢
      exact q
    · have q : upd ρ.fz p u a = some o := q
      rw [upd_ne z] at q ⊢
      exact c.fzH a o q
  · have z : a ≠ p := fun z => np (z ▸ List.mem_of_getElem? e2)
    have q := c.apt n o' a e1 e2
    exact ⟨q.1, fun hd => by show upd ρ.fz p u a = none; rw [upd_ne z]; exact q.2 hd⟩
  · have q : upd ρ.fz p u a = some (.frz o (.lst xs)) := q
    by_cases z : a = p
    · subst z
      rw [upd_same] at q
      exact hu _ _ (Option.some.inj q)
    · rw [upd_ne z] at q
      exact c.nfl a o xs q
/-- an object rewritten -/
theorem Cs.put (c : Cs g ρ h H) {n : Nat} {a : Addr} {o : O} {u : HO} (e : ρ.as[n]? = some a) (nf : (∀ o w, H a ≠ some (.frz o w)) ∧ (∀ φ : Heap → Prop, H a ≠ some (HO.ext φ)) ∧ ∀ gs, H a ≠ some (.xd gs)) (m : Om g ρ (upd H a u) a o) (ap : ρ.fz a = none ∧ ρ.lk a = none) : Cs g ρ (h.set n o) (upd H a u) := by
  refine ⟨by rw [List.length_set]; exact c.len, fun n' o' a' e1 e2 => ?_, c.inj, c.scr.upd nf.1, fun a' dd fs ex => ?_, c.fzH.upd ap.1, c.lkH.upd ap.2, fun n' o' a' e1 e2 => ?_, c.nfl⟩
  · by_cases hn : n = n'
    · subst hn
      rw [e] at e2
      cases e2
      have hl : n < (h.set n o).length := (List.getElem?_eq_some_iff.mp e1).1
      rw [List.length_set] at hl
      rw [List.getElem?_set_self hl] at e1
      cases e1
      exact m
    · rw [List.getElem?_set_ne hn] at e1
      refine Om.ren (Wd.refl ρ) (c.at_ n' o' a' e1 e2) (fun z => ?_) nf.2.1
      subst z
      obtain ⟨h1, q1⟩ := List.getElem?_eq_some_iff.mp e
      obtain ⟨h2, q2⟩ := List.getElem?_eq_some_iff.mp e2
      exact hn ((List.getElem_inj c.inj).mp (q1.trans q2.symm))
  · obtain ⟨gs, r, e⟩ := c.xn a' dd fs ex
    refine ⟨gs, r, ?_⟩
    rw [upd_ne]
    · exact e
    · intro z
      rw [z] at e
      exact nf.2.2 _ e
  · by_cases hn : n = n'
    · subst hn
      rw [e] at e2
      cases e2
      exact ⟨ap.2, fun _ => ap.1⟩
    · rw [List.getElem?_set_ne hn] at e1
      exact c.apt n' o' a' e1 e2
end

/-! ### what is wanted behind a mirror's step -/
/-- an exception's wish: its class, its fields -/
def Xp (g : Gc) (ρ : Wd) (c : Nat) (f : List (Str × U)) (h : Mh) (E : XK) : Prop :=
  ∀ ρ' H, Wd.Le ρ ρ' → Cs g ρ' h H →
    (f = [] → E (.ref (g.cl c)) none H) ∧ ∀ d gs, f ≠ [] → H d = none → Rf g ρ' f gs → E (.ref (g.cl c)) (some d) (upd H d (.xd gs))
def Post {α β : Type} (g : Gc) (rel : Wd → α → β → Prop) (ρ : Wd) (r : R α) (Q : β → Hp → Prop) (E : XK) : Prop := match r with
  | .ok a h => ∀ ρ' b H, Wd.Le ρ ρ' → Cs g ρ' h H → rel ρ' a b → Q b H
  | .ex c f h => Xp g ρ c f h E
  | .stuck => False
/-- at a state: from here on -/
def At {α β : Type} (g : Gc) (rel : Wd → α → β → Prop) (m : Sl → Mh → R α) (E : XK) (σ : L2.St) (H : Hp) (Q : β → Hp → Prop) : Prop :=
  ∃ ρ s h, Rsl g ρ s σ ∧ Cs g ρ h H ∧ Post g rel ρ (m s h) Q E
abbrev relB : Wd → Bool → Bool → Prop := fun _ a b => a = b
/-- readings of expressions, tests, arguments -/
def T (g : Gc) (E : WX) (m : Me) : TE := fun σ H Q => At g (Rl g) m (WE E σ) σ H Q
def TB (g : Gc) (E : WX) (m : Sl → Mh → R Bool) : TT := fun σ H Q => At g relB m (WE E σ) σ H Q
def TL (g : Gc) (E : WX) (m : Sl → Mh → R (List U)) : TA := fun σ H Q => At g (Rls g) m (WE E σ) σ H Q
section
variable {g : Gc} {ρ ρ' : Wd} {h h' : Mh} {H H' : Hp} {E : XK} {α β γ δ : Type} {rel : Wd → α → β → Prop} {rel' : Wd → γ → δ → Prop}
theorem Xp.mono {c : Nat} {f : List (Str × U)} (e : Wd.Le ρ ρ') (x : Xp g ρ c f h E) : Xp g ρ' c f h E := fun ρ2 H2 e2 c2 => x ρ2 H2 (e.trans e2) c2
theorem Post.mono {r : R α} {Q : β → Hp → Prop} (e : Wd.Le ρ ρ') (p : Post g rel ρ r Q E) : Post g rel ρ' r Q E := by
  cases r with
  | ok a h => exact fun ρ2 b H2 e2 c2 r2 => p ρ2 b H2 (e.trans e2) c2 r2
  | ex c f h => exact Xp.mono e p
  | stuck => exact p
theorem Post.imp {r : R α} {Q Q' : β → Hp → Prop} (p : Post g rel ρ r Q E) (hq : ∀ b H, Q b H → Q' b H) : Post g rel ρ r Q' E := by
  cases r with
  | ok a h => exact fun ρ2 b H2 e2 c2 r2 => hq _ _ (p ρ2 b H2 e2 c2 r2)
  | ex c f h => exact p
  | stuck => exact p
/-- the state behind a step, and what is left -/
theorem Post.cut {r : R α} {f : α → Mh → R γ} {Q : δ → Hp → Prop} (p : Post g rel' ρ (r.bind f) Q E) :
    Post g rel ρ r (fun b H1 => ∃ ρ1 a h1, Wd.Le ρ ρ1 ∧ Cs g ρ1 h1 H1 ∧ rel ρ1 a b ∧ Post g rel' ρ1 (f a h1) Q E) E := by
  cases r with
  | ok a h => exact fun ρ2 b H2 e2 c2 r2 => ⟨ρ2, a, h, e2, c2, r2, Post.mono e2 p⟩
  | ex c f h => exact p
  | stuck => exact p
/-- in sequence: the next part m2 at the slots as they are -/
theorem At.seq {m : Sl → Mh → R α} {k : α → Sl → Mh → R γ} {σ : L2.St} {Q : δ → Hp → Prop} (a : At g rel' (fun s h => (m s h).bind fun x h1 => k x s h1) E σ H Q)
    {Q1 : β → Hp → Prop} (hq : ∀ ρ1 x s h1 b H1, Rsl g ρ1 s σ → Cs g ρ1 h1 H1 → rel ρ1 x b → Post g rel' ρ1 (k x s h1) Q E → Q1 b H1) : At g rel m E σ H Q1 := by
  obtain ⟨ρ, s, h, hs, c, p⟩ := a
  exact ⟨ρ, s, h, hs, c, (Post.cut (rel := rel) p).imp fun b H1 ⟨ρ1, x, h1, e1, c1, r1, p1⟩ => hq ρ1 x s h1 b H1 (Rsl.mono e1 hs) c1 r1 p1⟩
theorem Post.here {a : α} {b : β} {Q : β → Hp → Prop} (p : Post g rel ρ (.ok a h) Q E) (c : Cs g ρ h H) (r : rel ρ a b) : Q b H := p ρ b H (Wd.refl ρ) c r
/-- a new object is handed back -/
theorem Post.made {o : O} {u : HO} {Q : V → Hp → Prop} {p : Addr} (q : Post g (Rl g) ρ (.ok (.loc h.length) (h ++ [o])) Q E) (c : Cs g ρ h H) (hp : H p = none) (m : Om g (ρ.snoc p) (upd H p u) p o) : Q (.ref p) (upd H p u) :=
  q (ρ.snoc p) (.ref p) _ (pre_snoc ρ p) (c.new hp m) ⟨p, new_get ρ p c.len, rfl⟩
/-- a new frozen object is handed back -/
theorem Post.madeF {r : U} {u : HO} {Q : V → Hp → Prop} {p : Addr} (q : Post g (Rl g) ρ (.ok r h) Q E) (c : Cs g ρ h H) (hp : H p = none) (hu : ∀ o xs, u ≠ .frz o (.lst xs)) (m : Wd.Le ρ (ρ.frz p u) → upd ρ.fz p u p = some u → Rl g (ρ.frz p u) r (.ref p)) : Q (.ref p) (upd H p u) :=
  q (ρ.frz p u) (.ref p) _ (c.frz_le hp) (c.newF hp hu) (m (c.frz_le hp) upd_same)
end

/-! ### the judgements, weakened to mirrors -/
theorem PE.im {X : Cx} {e : Expr} {t t' : TE} (h : PE X e t) (i : ∀ σ H Q, t' σ H Q → t σ H Q) : PE X e t' := ⟨fun pins s σ H Q I q => h.run pins s σ H Q I (i σ H Q q)⟩
theorem PT.im {X : Cx} {e : Expr} {t t' : TT} (h : PT X e t) (i : ∀ σ H Q, t' σ H Q → t σ H Q) : PT X e t' := ⟨fun pins s σ H Q I q => h.run pins s σ H Q I (i σ H Q q)⟩
theorem PW.im {X : Cx} {e : Expr} {t t' : TT} (h : PW X e t) (i : ∀ σ H Q, t' σ H Q → t σ H Q) : PW X e t' := ⟨fun wh pins s σ H Q I q => h.run wh pins s σ H Q I (i σ H Q q)⟩
theorem PA.im {X : Cx} {e : List Expr} {t t' : TA} (h : PA X e t) (i : ∀ σ H Q, t' σ H Q → t σ H Q) : PA X e t' := ⟨fun po pins s σ H Q I q => h.run po pins s σ H Q I (i σ H Q q)⟩
theorem PS.im {X : Cx} {e : Stmt} {t t' : TS} (h : PS X e t) (i : ∀ D σ H, t' D σ H → t D σ H) : PS X e t' := ⟨fun pins s σ H D I q => h.run pins s σ H D I (i D σ H q)⟩
theorem PSs.im {X : Cx} {e : List Stmt} {t t' : TS} (h : PSs X e t) (i : ∀ D σ H, t' D σ H → t D σ H) : PSs X e t' := ⟨fun pins s σ H D I q => h.run pins s σ H D I (i D σ H q)⟩
end Vm

set_option Elab.async false
set_option linter.all false
set_option maxRecDepth 100000
set_option maxHeartbeats 4100000
namespace Vm
open L2 PyProof.Rows PySem PySem.Spec

/-! ### expressions -/
def mV (i : Nat) : Me := fun s h => match s[i]? with
  | some (some u) => .ok u h
  | _ => .stuck
def mC (u : U) : Me := fun _ h => .ok u h
abbrev F2 := U → U → Mh → R U
def m2 (f : F2) (a b : Me) : Me := fun s h => (a s h).bind fun x h1 => (b s h1).bind fun y h2 => f x y h2
def m1 (f : U → Mh → R U) (a : Me) : Me := fun s h => (a s h).bind fun x h1 => f x h1
abbrev Ml := Sl → Mh → R (List U)
def lN : Ml := fun _ h => .ok [] h
def lC (a : Me) (r : Ml) : Ml := fun s h => (a s h).bind fun x h1 => (r s h1).bind fun xs h2 => .ok (x :: xs) h2
def newO (o : O) : Mh → R U := fun h => .ok (.loc h.length) (h ++ [o])
def mT (a : Ml) : Me := fun s h => (a s h).bind fun xs h1 => if xs.length ≤ 100000 then newO (.tup xs) h1 else .stuck
def mL (a : Ml) : Me := fun s h => (a s h).bind fun xs h1 => if xs.length ≤ 100000 then newO (.lst xs) h1 else .stuck
def mCall (d : List U → Mh → R U) (a : Ml) : Me := fun s h => (a s h).bind fun xs h1 => d xs h1
abbrev Mb := Sl → Mh → R Bool
def asB : U → Mh → R Bool := fun u h => match u with
  | .bl b => .ok b h
  | _ => .stuck
def bV (a : Me) : Mb := fun s h => (a s h).bind asB
def bAnd (a b : Mb) : Mb := fun s h => (a s h).bind fun x h1 => match x with
  | true => b s h1
  | false => .ok false h1
def bOr (a b : Mb) : Mb := fun s h => (a s h).bind fun x h1 => match x with
  | true => .ok true h1
  | false => b s h1
def bNot (a : Mb) : Mb := fun s h => (a s h).bind fun x h1 => .ok (!x) h1
def mIf (c : Mb) (a b : Me) : Me := fun s h => (c s h).bind fun x h1 => match x with
  | true => a s h1
  | false => b s h1
def mAndV (a b : Me) : Me := fun s h => (a s h).bind fun x h1 => match x with
  | .bl true => b s h1
  | .bl false => .ok (.bl false) h1
  | _ => .stuck
def mOrV (a b : Me) : Me := fun s h => (a s h).bind fun x h1 => match x with
  | .bl true => .ok (.bl true) h1
  | .bl false => b s h1
  | _ => .stuck
def mNotV (a : Me) : Me := fun s h => (a s h).bind fun x h1 => match x with
  | .bl b => .ok (.bl (!b)) h1
  | _ => .stuck

/-! ### soundness of operations by values -/
def S2 (g : Gc) (f : F2) (r : R2) : Prop := ∀ E ρ x y vx vy h H Q, Rl g ρ x vx → Rl g ρ y vy → Cs g ρ h H → Post g (Rl g) ρ (f x y h) Q E → r vx vy H Q
def S1 (g : Gc) (f : U → Mh → R U) (r : V → Hp → VK → Prop) : Prop := ∀ E ρ x vx h H Q, Rl g ρ x vx → Cs g ρ h H → Post g (Rl g) ρ (f x h) Q E → r vx H Q
def SL (g : Gc) (f : List U → Mh → R U) (r : List V → Hp → VK → Prop) : Prop := ∀ E ρ xs vs h H Q, Rls g ρ xs vs → Cs g ρ h H → Post g (Rl g) ρ (f xs h) Q E → r vs H Q

section
variable {X : Cx} {g : Gc} {E : WX} {a b c e : Expr} {A B Cc : Me} {pos : Pos}

theorem e_var {i : Nat} {x : Str} (hN : X.N[i]? = some x := by rfl) (hv : Vis X.env.scope x := by first | exact Or.inl rfl | exact Or.inr (Or.inl rfl) | exact Or.inr (Or.inr rfl)) (hd : (x == ("__debug__" : Str)) = false := by decide)
    (hcd : (x == ("__classdict__" : Str)) = false := by decide) : PE X (.Name x pos) (T g E (mV i)) := by
  refine PE.im (pe_var hN hv hd hcd) fun σ H Q ⟨ρ, s, h, hs, cs, p⟩ => ?_
  unfold mV at p
  cases es : s[i]? with
  | none => rw [es] at p; exact p.elim
  | some o =>
    rw [es] at p
    cases o with
    | none => exact p.elim
    | some u =>
      obtain ⟨ov, e1, r⟩ := Paired.get hs es
      cases ov with
      | none => exact r.elim
      | some v => exact ⟨v, e1, Post.here (rel := Rl g) p cs r⟩
theorem e_con {u : U} {v : V} (h : PE X e (tC v)) (r : ∀ ρ, Rl g ρ u v) : PE X e (T g E (mC u)) :=
  PE.im h fun _ _ _ ⟨ρ, _, _, _, cs, p⟩ => Post.here (rel := Rl g) p cs (r ρ)
theorem e_int {i j} : PE X (.Constant (.int i) j pos) (T g E (mC (.int i))) := e_con pe_int fun _ => rfl
theorem e_bl {i j} : PE X (.Constant (.bool i) j pos) (T g E (mC (.bl i))) := e_con pe_bl fun _ => rfl
theorem e_non {j} : PE X (.Constant .none j pos) (T g E (mC .non)) := e_con pe_non fun _ => rfl
theorem e_str {x y j} (hy : x = y := by rfl) : PE X (.Constant (.str x) j pos) (T g E (mC (.str y))) := by
  subst hy
  exact e_con pe_str fun _ => rfl
theorem e_glob {x : Str} {u : U} {v : V} {w : Value} (hg : Gl X x) (hm : X.mg x = some w) (r : RelV v w) (ru : ∀ ρ, Rl g ρ u v) (hd : (x == ("__debug__" : Str)) = false := by decide) : PE X (.Name x pos) (T g E (mC u)) := e_con (pe_glob hg hm r hd) ru


/-- two parts, then by values -/
theorem at2 {f : F2} {r : R2} (hs : S2 g f r) {σ : L2.St} {H : Hp} {Q : VK} (q : At g (Rl g) (m2 f A B) (WE E σ) σ H Q) : T g E A σ H fun x H1 => T g E B σ H1 fun y H2 => r x y H2 Q := by
  refine At.seq (rel := Rl g) q fun ρ1 x s h1 v H1 hs1 c1 r1 p1 => ?_
  exact ⟨ρ1, s, h1, hs1, c1, (Post.cut (rel := Rl g) p1).imp fun w H2 ⟨ρ2, y, h2, e2, c2, r2, p2⟩ => hs _ ρ2 x y v w h2 H2 Q (Rl.mono e2 r1) r2 c2 p2⟩
theorem at1 {f : U → Mh → R U} {r : V → Hp → VK → Prop} (hs : S1 g f r) {σ : L2.St} {H : Hp} {Q : VK} (q : At g (Rl g) (m1 f A) (WE E σ) σ H Q) : T g E A σ H fun x H1 => r x H1 Q :=
  At.seq (rel := Rl g) q fun ρ1 x s h1 v H1 hs1 c1 r1 p1 => hs _ ρ1 x v h1 H1 Q r1 c1 p1
theorem atL {f : List U → Mh → R U} {r : List V → Hp → VK → Prop} (hs : SL g f r) {L : Ml} {σ : L2.St} {H : Hp} {Q : VK} (q : At g (Rl g) (fun s h => (L s h).bind f) (WE E σ) σ H Q) : TL g E L σ H fun xs H1 => r xs H1 Q :=
  At.seq (rel := Rls g) (k := fun xs _ h1 => f xs h1) q fun ρ1 x s h1 v H1 hs1 c1 r1 p1 => hs _ ρ1 x v h1 H1 Q r1 c1 p1

theorem e_op {op : Operator} {f : F2} {r : R2} (ho : OpR X (binaryOp op) r) (hs : S2 g f r) (ha : PE X a (T g E A)) (hb : PE X b (T g E B)) : PE X (.BinOp a op b pos) (T g E (m2 f A B)) :=
  PE.im (pe_op ho ha hb) fun _ _ _ q => at2 hs q
theorem e_un {op : UnaryOp} {f : U → Mh → R U} {r : V → Hp → VK → Prop} (ho : UnR X (unaryOp op) r) (hs : S1 g f r) (ha : PE X a (T g E A)) : PE X (.UnaryOp op a pos) (T g E (m1 f A)) :=
  PE.im (pe_un ho ha) fun _ _ _ q => at1 hs q
theorem e_cmp {op : CmpOp} {f : F2} {r : R2} (ho : OpR X (compareOp op) r) (hs : S2 g f r) (ha : PE X a (T g E A)) (hb : PE X b (T g E B)) (hm : behindInMarks op b = false := by rfl) : PE X (.Compare a [op] [b] pos) (T g E (m2 f A B)) :=
  PE.im (pe_cmpR ho ha hb hm) fun _ _ _ q => at2 hs q
theorem e_ix {f : F2} {r : R2} (ho : IxR X r) (hs : S2 g f r) (ha : PE X a (T g E A)) (hb : PE X b (T g E B)) (hp : PlainIx b := by exact fun _ _ => rfl) : PE X (.Subscript a b pos) (T g E (m2 f A B)) :=
  PE.im (pe_ix ho ha hb hp) fun _ _ _ q => at2 hs q
theorem e_not (ha : PE X a (T g E A)) : PE X (.UnaryOp .Not a pos) (T g E (mNotV A)) := by
  refine PE.im (pe_not ha) fun σ H Q q => At.seq (rel := Rl g) q fun ρ1 x s h1 v H1 hs1 c1 r1 p1 => ?_
  cases x with
  | bl b => exact ⟨b, r1, Post.here (rel := Rl g) p1 c1 rfl⟩
  | _ => exact p1.elim
theorem e_one {op} (h : PE X a (T g E A)) : PE X (.BoolOp op [a] pos) (T g E A) := pe_one h
theorem e_and {rest : List Expr} (ha : PE X a (T g E A)) (hb : PE X (.BoolOp .And (b :: rest) pos) (T g E B)) : PE X (.BoolOp .And (a :: b :: rest) pos) (T g E (mAndV A B)) := by
  refine PE.im (pe_and ha hb) fun σ H Q q => At.seq (rel := Rl g) q fun ρ1 x s h1 v H1 hs1 c1 r1 p1 => ?_
  cases x with
  | bl k =>
    cases k with
    | true => exact ⟨true, r1, by rw [if_pos rfl]; exact ⟨ρ1, s, h1, hs1, c1, p1⟩⟩
    | false => exact ⟨false, r1, by rw [if_neg Bool.false_ne_true]; exact Post.here (rel := Rl g) p1 c1 rfl⟩
  | _ => exact p1.elim
theorem e_or {rest : List Expr} (ha : PE X a (T g E A)) (hb : PE X (.BoolOp .Or (b :: rest) pos) (T g E B)) : PE X (.BoolOp .Or (a :: b :: rest) pos) (T g E (mOrV A B)) := by
  refine PE.im (pe_or ha hb) fun σ H Q q => At.seq (rel := Rl g) q fun ρ1 x s h1 v H1 hs1 c1 r1 p1 => ?_
  cases x with
  | bl k =>
    cases k with
    | true => exact ⟨true, r1, by rw [if_pos rfl]; exact Post.here (rel := Rl g) p1 c1 rfl⟩
    | false => exact ⟨false, r1, by rw [if_neg Bool.false_ne_true]; exact ⟨ρ1, s, h1, hs1, c1, p1⟩⟩
  | _ => exact p1.elim
theorem e_if {t : Mb} (hc : PT X c (TB g E t)) (ha : PE X a (T g E A)) (hb : PE X b (T g E B)) : PE X (.IfExp c a b pos) (T g E (mIf t A B)) := by
  refine PE.im (pe_ifExp hc ha hb) fun σ H Q q => At.seq (rel := relB) q fun ρ1 x s h1 v H1 hs1 c1 r1 p1 => ?_
  cases r1
  cases x with
  | true => rw [if_pos rfl]; exact ⟨ρ1, s, h1, hs1, c1, p1⟩
  | false => rw [if_neg Bool.false_ne_true]; exact ⟨ρ1, s, h1, hs1, c1, p1⟩

/-! ### tests -/
variable {tA tB : Mb}
/-- an expression whose value is a bool -/
theorem t_val (h : PE X a (T g E A)) (he : ∀ whole, isTrue a X.env whole = (do let v ← whole; standAt a.pos; holding [v] (truthy v)) := by intro _; rfl) : PT X a (TB g E (bV A)) := by
  refine PT.im (pt_val h he) fun σ H Q q => At.seq (rel := Rl g) (k := fun x _ h1 => asB x h1) q fun ρ1 x s h1 v H1 hs1 c1 r1 p1 => ?_
  cases x with
  | bl k => exact ⟨k, r1, Post.here (rel := relB) p1 c1 rfl⟩
  | _ => exact p1.elim
theorem t_cmp {op : CmpOp} {f : F2} {r : R2} (ho : OpR X (compareOp op) r) (hs : S2 g f r) (ha : PE X a (T g E A)) (hb : PE X b (T g E B)) (hm : behindInMarks op b = false := by rfl) : PT X (.Compare a [op] [b] pos) (TB g E (bV (m2 f A B))) := by
  refine PT.im (pt_cmpR ho ha hb hm) fun σ H Q q => at2 hs ?_
  refine At.seq (rel := Rl g) (m := m2 f A B) (k := fun x _ h1 => asB x h1) q fun ρ1 x s h1 v H1 hs1 c1 r1 p1 => ?_
  cases x with
  | bl k => exact ⟨k, r1, Post.here (rel := relB) p1 c1 rfl⟩
  | _ => exact p1.elim
theorem t_not (h : PT X a (TB g E tA)) : PT X (.UnaryOp .Not a pos) (TB g E (bNot tA)) := by
  refine PT.im (pt_not h) fun σ H Q q => At.seq (rel := relB) q fun ρ1 x s h1 v H1 hs1 c1 r1 p1 => ?_
  cases r1
  exact Post.here (rel := relB) p1 c1 rfl
theorem w_and1 (h : PT X a (TB g E tA)) : PW X (.BoolOp .And [a] pos) (TB g E tA) := pw_and1 h
theorem w_or1 (h : PT X a (TB g E tA)) : PW X (.BoolOp .Or [a] pos) (TB g E tA) := pw_or1 h
theorem w_and {rest : List Expr} (ha : PT X a (TB g E tA)) (hb : PW X (.BoolOp .And (b :: rest) pos) (TB g E tB)) : PW X (.BoolOp .And (a :: b :: rest) pos) (TB g E (bAnd tA tB)) := by
  refine PW.im (pw_and ha hb) fun σ H Q q => At.seq (rel := relB) q fun ρ1 x s h1 v H1 hs1 c1 r1 p1 => ?_
  cases r1
  cases x with
  | true => rw [if_pos rfl]; exact ⟨ρ1, s, h1, hs1, c1, p1⟩
  | false => rw [if_neg Bool.false_ne_true]; exact Post.here (rel := relB) p1 c1 rfl
theorem w_or {rest : List Expr} (ha : PT X a (TB g E tA)) (hb : PW X (.BoolOp .Or (b :: rest) pos) (TB g E tB)) : PW X (.BoolOp .Or (a :: b :: rest) pos) (TB g E (bOr tA tB)) := by
  refine PW.im (pw_or ha hb) fun σ H Q q => At.seq (rel := relB) q fun ρ1 x s h1 v H1 hs1 c1 r1 p1 => ?_
  cases r1
  cases x with
  | true => rw [if_pos rfl]; exact Post.here (rel := relB) p1 c1 rfl
  | false => rw [if_neg Bool.false_ne_true]; exact ⟨ρ1, s, h1, hs1, c1, p1⟩

/-! ### exact tuples -/
def tTupX (t : TA) : TE := fun σ H Q => t σ H fun xs H1 => xs.length ≤ sizeLine ∧ ∀ p o, o.dict = none → H1 p = none → Q (.ref p) (upd H1 p (.frz o (.tup xs)))
theorem tup_laid {pins : List (Addr × Obj)} {s : Shared} {σ : L2.St} {H : Hp} {xs : List V} {us : List Value} (I : Inv X pins σ H s) (r : Vals xs us) (z : xs.length ≤ sizeLine) :
    Inv X pins σ (upd H s.heap.objs.size (.frz { cls := .type "tuple", data := .seq us.toArray } (.tup xs))) { s with heap := s.heap.push { cls := .type "tuple", data := .seq us.toArray } } :=
  I.laid (t' := s.toks) (fun b u e => Heap.get?_push_of_some _ e) (Nat.le_refl _) ⟨Heap.get?_push_size _ rfl, z, us, r, ⟨_, Heap.get?_push_size _ rfl, rfl, _, rfl⟩⟩
theorem pe_tupX {x1} {es : List Expr} {t : TA} (h : PA X es t) : PE X (.Tuple es x1 pos) (tTupX t) := by
  refine ⟨fun pins s σ H Q I hq => ?_⟩; refine wpAny_Tuple_spliced (thn (h.run pos pins s σ H _ I hq) fun us s1 ⟨xs, H1, I1, r, z, q⟩ => ⟨by rw [← r.length]; exact z, ?_⟩)
  exact ⟨.ref s1.heap.objs.size, _, tup_laid I1 r z, rfl, q _ _ rfl (I1.hok.fresh (Nat.le_refl _))⟩

/-! ### argument lists, displays, calls -/
variable {es : List Expr} {L L2' : Ml}
theorem l_nil : PA X [] (TL g E lN) := PA.im pa_nil fun _ _ _ ⟨ρ, _, _, _, cs, p⟩ => Post.here (rel := Rls g) p cs .nil
theorem l_cons (ha : PE X e (T g E A)) (hr : PA X es (TL g E L)) (hs : starEach (e :: es) X.env = (false, eval e X.env) :: starEach es X.env := by rfl) : PA X (e :: es) (TL g E (lC A L)) := by
  refine PA.im (pa_cons ha hr hs) fun σ H Q q => At.seq (rel := Rl g) q fun ρ1 x s h1 v H1 hs1 c1 r1 p1 => ?_
  refine ⟨ρ1, s, h1, hs1, c1, (Post.cut (rel := Rls g) p1).imp fun vs H2 ⟨ρ2, xs, h2, e2, c2, r2, p2⟩ => ?_⟩
  exact Post.here (rel := Rls g) p2 c2 (.cons (Rl.mono e2 r1) r2)
theorem big_line {n : Nat} (h : n ≤ 100000) : n ≤ sizeLine := by
  rw [sizeLine_eq]
  omega
theorem e_tup {x1} (h : PA X es (TL g E L)) : PE X (.Tuple es x1 pos) (T g E (mT L)) := by
  refine PE.im (pe_tupX h) fun σ H Q q => At.seq (rel := Rls g) q fun ρ1 xs s h1 vs H1 hs1 c1 r1 p1 => ?_
  by_cases hl : xs.length ≤ 100000
  · rw [if_pos hl] at p1
    refine ⟨by rw [← Paired.length r1]; exact big_line hl, fun p o ho hp => Post.made p1 c1 hp ⟨vs, o, Rls.mono (pre_snoc _ _) r1, ho, upd_same⟩⟩
  · rw [if_neg hl] at p1
    exact p1.elim
theorem e_lst (h : PA X es (TL g E L)) : PE X (.List es pos) (T g E (mL L)) := by
  refine PE.im (pe_lst h) fun σ H Q q => At.seq (rel := Rls g) q fun ρ1 xs s h1 vs H1 hs1 c1 r1 p1 => ?_
  by_cases hl : xs.length ≤ 100000
  · rw [if_pos hl] at p1
    refine ⟨by rw [← Paired.length r1]; exact big_line hl, fun p hp => Post.made p1 c1 hp ⟨vs, Rls.mono (pre_snoc _ _) r1, upd_same⟩⟩
  · rw [if_neg hl] at p1
    exact p1.elim
/-- a builtin's call -/
def mBt (f : List U → Mh → R U) (a : Ml) : Me := fun s h => (a s h).bind f
theorem e_callB {x : Str} {p : Pos} {id : String} {f : List U → Mh → R U} {r : List V → Hp → VK → Prop} (hc : CallR X (.builtin id) r) (hs : SL g f r) (hg : Gl X x) (hm : X.mg x = none) (hv : bootBuiltins x = some (.builtin id)) (ha : PA X (e :: es) (TL g E L)) (hn : x ≠ "__name__" := by decide) (hdb : (x == ("__debug__" : Str)) = false := by decide)
    (he : starEach (e :: es) X.env = (false, eval e X.env) :: starEach es X.env := by rfl) (hpl : (backTo pos (starEach es X.env)).any (·.1) = false := by rfl) : PE X (.Call (.Name x p) (e :: es) [] pos) (T g E (mBt f L)) :=
  PE.im (pe_callB hc hg hm hv ha hn hdb he hpl) fun _ _ _ q => atL hs q
theorem e_callTy {x : Str} {p : Pos} {id : String} {f : List U → Mh → R U} {r : List V → Hp → VK → Prop} (hc : CallR X (.type id) r) (hs : SL g f r) (hg : Gl X x) (hm : X.mg x = none) (hv : bootBuiltins x = some (.type id)) (ha : PA X (e :: es) (TL g E L)) (hn : x ≠ "__name__" := by decide) (hdb : (x == ("__debug__" : Str)) = false := by decide)
    (he : starEach (e :: es) X.env = (false, eval e X.env) :: starEach es X.env := by rfl) (hpl : (backTo pos (starEach es X.env)).any (·.1) = false := by rfl) : PE X (.Call (.Name x p) (e :: es) [] pos) (T g E (mBt f L)) :=
  PE.im (pe_callTy hc hg hm hv ha hn hdb he hpl) fun _ _ _ q => atL hs q
/-- what a def promises: its mirror's answer -/
def spM (g : Gc) (n : Nat) (d : List U → Mh → R U) : Sp := fun vs H Q E => vs.length = n ∧ ∃ ρ xs h, Rls g ρ xs vs ∧ Cs g ρ h H ∧ Post g (Rl g) ρ (d xs h) Q E
theorem e_call {k : Nat} {f : Addr} {fd : FuncData} {ps : List Str} {n : Nat} {d : List U → Mh → R U} {x : Str} {p : Pos} (F : FnOk X.prog X.w X.K X.mg X.base (L2.CX X.prog X.w) k f fd ps (spM g n d)) (hr : Room k X.A) (hg : Gl X x) (hm : X.mg x = some (.ref f)) (hk : PySem.W.keepIn X.K (.ref f) = true) (hb : Binds X.K fd ps []) (tk : Takes X E)
    (ha : PA X (e :: es) (TL g E L)) (hl : ∀ s h xs h', L s h = .ok xs h' → xs.length = n) (hdb : (x == ("__debug__" : Str)) = false := by decide) (he : starEach (e :: es) X.env = (false, eval e X.env) :: starEach es X.env := by rfl) (hpl : (backTo pos (starEach es X.env)).any (·.1) = false := by rfl) :
    PE X (.Call (.Name x p) (e :: es) [] pos) (T g E (mCall d L)) := by
  refine PE.im (pe_callS F hr hg hm hk hb (fun σ => passAt tk σ) ha hdb he hpl) fun σ H Q q => ?_
  obtain ⟨ρ, s, h, hs, cs, p⟩ := q
  refine ⟨ρ, s, h, hs, cs, ?_⟩
  cases el : L s h with
  | ok xs h1 =>
    unfold mCall at p
    rw [el] at p
    intro ρ1 vs H1 e1 c1 r1
    refine ⟨by rw [← Paired.length r1]; exact hl _ _ _ _ el, ρ1, xs, h1, r1, c1, Post.mono e1 p⟩
  | ex c f h1 =>
    unfold mCall at p
    rw [el] at p
    exact p
  | stuck =>
    unfold mCall at p
    rw [el] at p
    exact p.elim
theorem lN_len : ∀ (s : Sl) (h : Mh) (xs : List U) (h' : Mh), lN s h = .ok xs h' → xs.length = 0 := fun _ _ _ _ e => by
  unfold lN at e
  cases e
  rfl
theorem lC_len {n : Nat} {L : Ml} {A : Me} (hl : ∀ (s : Sl) (h : Mh) (xs : List U) (h' : Mh), L s h = .ok xs h' → xs.length = n) : ∀ (s : Sl) (h : Mh) (xs : List U) (h' : Mh), lC A L s h = .ok xs h' → xs.length = n + 1 := fun s h xs h' e => by
  unfold lC at e
  cases ea : A s h with
  | ok x h1 =>
    rw [ea] at e
    simp only [R.bind] at e
    cases el : L s h1 with
    | ok ys h2 =>
      rw [el] at e
      simp only [R.ok.injEq] at e
      rw [← e.1, List.length_cons, hl _ _ _ _ el]
    | ex c f h2 => rw [el] at e; cases e
    | stuck => rw [el] at e; cases e
  | ex c f h1 => rw [ea] at e; cases e
  | stuck => rw [ea] at e; cases e
end
end Vm

set_option Elab.async false
set_option linter.all false
set_option maxRecDepth 100000
set_option maxHeartbeats 4100000
namespace Vm
open L2 PyProof.Rows PySem PySem.Spec

/-! ### statements -/
inductive RS where
  | nx (s : Sl) (h : Mh) | rt (u : U) (h : Mh) | bk (s : Sl) (h : Mh) | ct (s : Sl) (h : Mh) | ex (c : Nat) (f : List (Str × U)) (s : Sl) (h : Mh) | stuck
abbrev Ms := Sl → Mh → RS
def R.bindS {α : Type} (r : R α) (s : Sl) (f : α → Mh → RS) : RS := match r with
  | .ok a h => f a h
  | .ex c g h => .ex c g s h
  | .stuck => .stuck
def XpS (g : Gc) (ρ : Wd) (c : Nat) (f : List (Str × U)) (s : Sl) (h : Mh) (W : WX) : Prop :=
  ∀ ρ' σ H, Wd.Le ρ ρ' → Cs g ρ' h H → Rsl g ρ' s σ →
    (f = [] → W (.ref (g.cl c)) none σ H) ∧ ∀ d gs, f ≠ [] → H d = none → Rf g ρ' f gs → W (.ref (g.cl c)) (some d) σ (upd H d (.xd gs))
def PostS (g : Gc) (W : WX) (ρ : Wd) (r : RS) (D : Ends) : Prop := match r with
  | .nx s h => ∀ ρ' σ H, Wd.Le ρ ρ' → Cs g ρ' h H → Rsl g ρ' s σ → D.nx σ H
  | .rt u h => ∀ ρ' v H, Wd.Le ρ ρ' → Cs g ρ' h H → Rl g ρ' u v → D.rt v H
  | .bk s h => ∀ ρ' σ H, Wd.Le ρ ρ' → Cs g ρ' h H → Rsl g ρ' s σ → D.bk σ H
  | .ct s h => ∀ ρ' σ H, Wd.Le ρ ρ' → Cs g ρ' h H → Rsl g ρ' s σ → D.ct σ H
  | .ex c f s h => XpS g ρ c f s h W
  | .stuck => False
def AtS (g : Gc) (W : WX) (m : Ms) (D : Ends) (σ : L2.St) (H : Hp) : Prop := ∃ ρ s h, Rsl g ρ s σ ∧ Cs g ρ h H ∧ PostS g W ρ (m s h) D
def TSm (g : Gc) (W : WX) (m : Ms) : TS := fun D σ H => AtS g W m D σ H

def sPass : Ms := fun s h => .nx s h
def sSeq (a b : Ms) : Ms := fun s h => match a s h with
  | .nx s1 h1 => b s1 h1
  | r => r
def sE (a : Me) : Ms := fun s h => (a s h).bindS s fun _ h1 => .nx s h1
def sRet (a : Me) : Ms := fun s h => (a s h).bindS s fun u h1 => .rt u h1
def sRetN : Ms := fun _ h => .rt .non h
def sBreak : Ms := fun s h => .bk s h
def sCont : Ms := fun s h => .ct s h
def sIf (c : Mb) (a b : Ms) : Ms := fun s h => (c s h).bindS s fun k h1 => match k with
  | true => a s h1
  | false => b s h1
/-- targets -/
abbrev Gt := U → Sl → Mh → Option Sl
abbrev Gts := List U → Sl → Mh → Option Sl
def gtN (i : Nat) : Gt := fun u s _ => some (s.set i (some u))
def gtNil : Gts := fun us s _ => match us with
  | [] => some s
  | _ => none
def gtCons (a : Gt) (b : Gts) : Gts := fun us s h => match us with
  | u :: r => (a u s h).bind fun s1 => b r s1 h
  | [] => none
def gtT (n : Nat) (b : Gts) : Gt := fun u s h => match u with
  | .loc k => match h[k]? with
    | some (.tup xs) => if xs.length = n then b xs s h else none
    | some (.tpl xs) => if xs.length = n then b xs s h else none
    | _ => none
  | _ => none
def sAsg (a : Me) (t : Gt) : Ms := fun s h => (a s h).bindS s fun u h1 => match t u s h1 with
  | some s1 => .nx s1 h1
  | none => .stuck
/-- what is walked: turn by turn -/
abbrev Itm := Nat → Mh → R (Option U)
abbrev Mi := Sl → Mh → R Itm
def ItP (g : Gc) (ρ : Wd) (J : It) (i : Nat) (h : Mh) (H : Hp) (r : R (Option U)) : Prop := match r with
  | .ok none h' => h' = h ∧ J.stop i H
  | .ok (some x) h' => J.go i H ∧ ∀ v H', J.yld i H v H' → ∃ ρ', Wd.Le ρ ρ' ∧ Cs g ρ' h' H' ∧ Rl g ρ' x v
  | _ => True
def ItOk (g : Gc) (ρ0 : Wd) (it : Itm) (J : It) : Prop := ∀ ρ i h H, Wd.Lx ρ0 ρ → Cs g ρ h H → ItP g ρ J i h H (it i h)
def loopS (it : Itm) (t : Gt) (b : Ms) : Nat → Nat → Sl → Mh → RS
  | 0, _, _, _ => .stuck
  | n + 1, i, s, h => match it i h with
    | .ok none h1 => .nx s h1
    | .ok (some x) h1 => match t x s h1 with
      | some s1 => match b s1 h1 with
        | .nx s2 h2 => loopS it t b n (i + 1) s2 h2
        | .ct s2 h2 => loopS it t b n (i + 1) s2 h2
        | .bk s2 h2 => .nx s2 h2
        | r => r
      | none => .stuck
    | _ => .stuck
def lim : Nat := 100000
def sFor (mi : Mi) (t : Gt) (b : Ms) : Ms := fun s h => (mi s h).bindS s fun it h1 => loopS it t b lim 0 s h1

section
variable {g : Gc} {ρ ρ' : Wd} {h h' : Mh} {H H' : Hp} {W : WX} {α β : Type} {rel : Wd → α → β → Prop} {D D' : Ends}
theorem XpS.mono {c : Nat} {f : List (Str × U)} {s : Sl} (e : Wd.Le ρ ρ') (x : XpS g ρ c f s h W) : XpS g ρ' c f s h W := fun ρ2 σ H2 e2 c2 r2 => x ρ2 σ H2 (e.trans e2) c2 r2
theorem PostS.mono {r : RS} (e : Wd.Le ρ ρ') (p : PostS g W ρ r D) : PostS g W ρ' r D := by
  cases r with
  | nx s h => exact fun ρ2 b H2 e2 c2 r2 => p ρ2 b H2 (e.trans e2) c2 r2
  | rt s h => exact fun ρ2 b H2 e2 c2 r2 => p ρ2 b H2 (e.trans e2) c2 r2
  | bk s h => exact fun ρ2 b H2 e2 c2 r2 => p ρ2 b H2 (e.trans e2) c2 r2
  | ct s h => exact fun ρ2 b H2 e2 c2 r2 => p ρ2 b H2 (e.trans e2) c2 r2
  | ex c f s h => exact XpS.mono e p
  | stuck => exact p
/-- an expression first -/
theorem AtS.seqE {m : Sl → Mh → R α} {k : α → Ms} {σ : L2.St} (a : AtS g W (fun s h => (m s h).bindS s fun x h1 => k x s h1) D σ H)
    {Q1 : β → Hp → Prop} (hq : ∀ ρ1 x s h1 b H1, Rsl g ρ1 s σ → Cs g ρ1 h1 H1 → rel ρ1 x b → PostS g W ρ1 (k x s h1) D → Q1 b H1) : At g rel m (WE W σ) σ H Q1 := by
  obtain ⟨ρ, s, h, hs, c, p⟩ := a
  refine ⟨ρ, s, h, hs, c, ?_⟩
  dsimp only at p
  cases em : m s h with
  | ok x h1 =>
    rw [em] at p
    exact fun ρ1 b H1 e1 c1 r1 => hq ρ1 x s h1 b H1 (Rsl.mono e1 hs) c1 r1 (PostS.mono e1 p)
  | ex c f h1 =>
    rw [em] at p
    exact fun ρ1 H1 e1 c1 => p ρ1 σ H1 e1 c1 (Rsl.mono e1 hs)
  | stuck =>
    rw [em] at p
    exact p.elim
theorem PostS.seq {r : RS} {b : Ms} (p : PostS g W ρ (match r with | .nx s1 h1 => b s1 h1 | r => r) D) : PostS g W ρ r { D with nx := TSm g W b D } := by
  cases r with
  | nx s h => exact fun ρ2 σ H2 e2 c2 r2 => ⟨ρ2, s, h, r2, c2, PostS.mono e2 p⟩
  | _ => exact p
end

section
variable {X : Cx} {g : Gc} {W : WX} {a b c e : Expr} {A B Cc : Me} {pos : Pos} {st : Stmt} {sts : List Stmt} {M N : Ms}
theorem s_nil : PSs X [] (TSm g W sPass) := PSs.im pss_nil fun D σ H ⟨ρ, s, h, hs, cs, p⟩ => p ρ σ H (Wd.refl ρ) cs hs
theorem s_cons (h1 : PS X st (TSm g W M)) (h2 : PSs X sts (TSm g W N)) : PSs X (st :: sts) (TSm g W (sSeq M N)) :=
  PSs.im (pss_cons h1 h2) fun D σ H ⟨ρ, s, h, hs, cs, p⟩ => ⟨ρ, s, h, hs, cs, PostS.seq p⟩
theorem s_one (h1 : PS X st (TSm g W M)) : PSs X [st] (TSm g W M) := pss_one h1
theorem s_pass : PS X (.Pass pos) (TSm g W sPass) := PS.im ps_pass fun D σ H ⟨ρ, s, h, hs, cs, p⟩ => p ρ σ H (Wd.refl ρ) cs hs
theorem s_doc {x j pos pos'} : PS X (.Expr (.Constant (.str x) j pos) pos') (TSm g W sPass) := PS.im ps_doc fun D σ H ⟨ρ, s, h, hs, cs, p⟩ => p ρ σ H (Wd.refl ρ) cs hs
theorem s_break : PS X (.Break pos) (TSm g W sBreak) := PS.im ps_break fun D σ H ⟨ρ, s, h, hs, cs, p⟩ => p ρ σ H (Wd.refl ρ) cs hs
theorem s_cont : PS X (.Continue pos) (TSm g W sCont) := PS.im ps_continue fun D σ H ⟨ρ, s, h, hs, cs, p⟩ => p ρ σ H (Wd.refl ρ) cs hs
theorem s_expr (he : PE X e (T g W A)) (hs : swapsWith e none pos.line X.env = pure false := by rfl) : PS X (.Expr e pos) (TSm g W (sE A)) :=
  PS.im (ps_expr he hs) fun D σ H q => AtS.seqE (rel := Rl g) (k := fun _ s h1 => .nx s h1) q fun ρ1 x s h1 b H1 hs c1 r1 p => p ρ1 σ H1 (Wd.refl _) c1 hs
theorem s_ret (he : PE X e (T g W A)) : PS X (.Return (some e) pos) (TSm g W (sRet A)) :=
  PS.im (ps_ret he) fun D σ H q => AtS.seqE (rel := Rl g) (k := fun u _ h1 => .rt u h1) q fun ρ1 x s h1 b H1 hs c1 r1 p => p ρ1 b H1 (Wd.refl _) c1 r1
theorem s_retN : PS X (.Return none pos) (TSm g W sRetN) := PS.im ps_retN fun D σ H ⟨ρ, s, h, hs, cs, p⟩ => p ρ .non H (Wd.refl ρ) cs rfl
theorem s_if {x y : List Stmt} {t : Mb} (hc : PT X c (TB g W t)) (ha : PSs X x (TSm g W M)) (hb : PSs X y (TSm g W N)) : PS X (.If c x y pos) (TSm g W (sIf t M N)) := by
  refine PS.im (ps_if hc ha hb) fun D σ H q => AtS.seqE (rel := relB) (m := t) (k := fun k s h1 => match k with | true => M s h1 | false => N s h1) q fun ρ1 x s h1 b H1 hs c1 r1 p => ?_
  cases r1
  cases x with
  | true => rw [if_pos rfl]; exact ⟨ρ1, s, h1, hs, c1, p⟩
  | false => rw [if_neg Bool.false_ne_true]; exact ⟨ρ1, s, h1, hs, c1, p⟩

/-! ### targets -/
def TGm (g : Gc) (is : List Nat) (t : Gt) : TG := fun v σ H Q => ∃ ρ u s h, Rl g ρ u v ∧ Rsl g ρ s σ ∧ Cs g ρ h H ∧ match t u s h with
  | some s1 => ∀ σ1, Rsl g ρ s1 σ1 → (∀ vs, (∀ i ∈ is, i ∈ vs) → wipe σ1 vs = wipe σ vs) → Q σ1 H
  | none => False
def TGsm (g : Gc) (is : List Nat) (t : Gts) : TGs := fun vs σ H Q => ∃ ρ us s h, Rls g ρ us vs ∧ Rsl g ρ s σ ∧ Cs g ρ h H ∧ match t us s h with
  | some s1 => ∀ σ1, Rsl g ρ s1 σ1 → (∀ vs, (∀ i ∈ is, i ∈ vs) → wipe σ1 vs = wipe σ vs) → Q σ1 H
  | none => False
theorem PG.im {tg : Expr} {t t' : TG} (h : PG X tg t) (i : ∀ v σ H Q, t' v σ H Q → t v σ H Q) : PG X tg t' := ⟨fun pins s σ H v u Q I r q => h.run pins s σ H v u Q I r (i v σ H Q q)⟩
theorem PGs.im {tg : List Expr} {t t' : TGs} (h : PGs X tg t) (i : ∀ v σ H Q, t' v σ H Q → t v σ H Q) : PGs X tg t' := ⟨fun pins s σ H v u Q I r q => h.run pins s σ H v u Q I r (i v σ H Q q)⟩
theorem wipe_set {x : Option V} {i : Nat} : ∀ {vs : List Nat} {σ : L2.St}, i ∈ vs → wipe (σ.set i x) vs = wipe σ vs
  | v :: vs, σ, hm => by
    unfold wipe
    by_cases hv : i ∈ vs
    · rw [wipe_set hv]
    · have e : i = v := by
        rcases List.mem_cons.mp hm with (e | e)
        · exact e
        · exact absurd e hv
      subst e
      have gen : ∀ (us : List Nat) (σ : L2.St), (wipe (σ.set i x) us).set i none = (wipe σ us).set i none := fun us => by
        induction us with
        | nil => intro σ; unfold wipe; rw [List.set_set]
        | cons u us ih =>
          intro σ
          unfold wipe
          by_cases hu : u = i
          · subst hu; rw [List.set_set, List.set_set]; exact ih σ
          · rw [List.set_comm _ _ hu, List.set_comm _ _ hu, ih σ]
      exact gen vs σ
theorem g_name {i : Nat} {x : Str} (hN : X.N.Nodup) (hi : X.N[i]? = some x := by rfl) (hx : Loc X.env.scope x := by first | exact Or.inl rfl | exact Or.inr rfl) (hf : X.fn x = true ∨ X.env.scope.names.lookup x = some .local := by first | exact .inl rfl | exact .inr rfl) :
    PG X (.Name x pos) (TGm g [i] (gtN i)) :=
  PG.im (pg_name hN hi hx hf) fun v σ H Q ⟨ρ, u, s, h, r, hs, cs, p⟩ => p _ (Paired.set (F := Rol g ρ) (x := some u) (y := some v) r i hs) fun vs hv => wipe_set (hv i (by simp))
theorem gs_nil : PGs X [] (TGsm g [] gtNil) := by
  refine PGs.im pgs_nil fun v σ H Q ⟨ρ, us, s, h, r, hs, cs, p⟩ => ?_
  cases r with
  | nil => exact ⟨rfl, p σ hs fun _ _ => rfl⟩
  | cons _ _ => exact p.elim
theorem TGsm.cut {is js : List Nat} {t : Gt} {ts : Gts} {v : List V} {σ : L2.St} {H : Hp} {Q : L2.St → Hp → Prop} (q : TGsm g (is ++ js) (gtCons t ts) v σ H Q) : gCons (TGm g is t) (TGsm g js ts) v σ H Q := by
  obtain ⟨ρ, us, s, h, r, hs, cs, p⟩ := q
  match us, v, r, p with
  | [], [], .nil, p => exact p.elim
  | u :: us, w :: ws, .cons r1 r2, p =>
    refine ⟨w, ws, rfl, ρ, u, s, h, r1, hs, cs, ?_⟩
    cases et : t u s h with
    | none =>
      simp only [gtCons, et, Option.bind] at p
    | some s1 =>
      simp only [gtCons, et, Option.bind] at p
      intro σ1 hs1 hw1
      refine ⟨ρ, us, s1, h, r2, hs1, cs, ?_⟩
      cases e2 : ts us s1 h with
      | none =>
        rw [e2] at p
        exact p.elim
      | some s2 =>
        rw [e2] at p
        exact fun σ2 hs2 hw2 => p σ2 hs2 fun vs hv => (hw2 vs fun i hi => hv i (List.mem_append_right _ hi)).trans (hw1 vs fun i hi => hv i (List.mem_append_left _ hi))
theorem gs_cons {es : List Expr} {is js : List Nat} {t : Gt} {ts : Gts} (h1 : PG X e (TGm g is t)) (h2 : PGs X es (TGsm g js ts))
    (hs : (assignEach (e :: es) X.env).map (·.2) = assign e X.env :: (assignEach es X.env).map (·.2) := by rfl) : PGs X (e :: es) (TGsm g (is ++ js) (gtCons t ts)) :=
  PGs.im (pgs_cons h1 h2 hs) fun _ _ _ _ q => q.cut
theorem g_tup {es : List Expr} {k n : Nat} {is : List Nat} {ts : Gts} (hc : X.calm = true) (h : PGs X es (TGsm g is ts))
    (hn : (assignEach es X.env).length = n := by rfl) (hst : (assignEach es X.env).findIdx? (·.1) = none := by rfl) : PG X (.Tuple es k pos) (TGm g is (gtT n ts)) := by
  refine PG.im (pg_tup hc h hn hst) fun v σ H Q ⟨ρ, u, s, hh, r, hs, cs, p⟩ => ?_
  cases u with
  | loc m =>
    simp only [gtT] at p
    cases em : hh[m]? with
    | none => rw [em] at p; exact p.elim
    | some o =>
      rw [em] at p
      cases o with
      | tup xs =>
        obtain ⟨a, vs, o, rfl, ea, rv, _, eh⟩ := cs.tup em r
        simp only at p
        by_cases hl : xs.length = n
        · rw [if_pos hl] at p
          exact ⟨a, vs, rfl, .inl (.inr ⟨o, eh⟩), by rw [← Paired.length rv]; exact hl, ρ, xs, s, hh, rv, hs, cs, p⟩
        · rw [if_neg hl] at p
          exact p.elim
      | tpl xs =>
        obtain ⟨a, vs, rfl, ea, rv, eh⟩ := cs.tpl em r
        simp only at p
        by_cases hl : xs.length = n
        · rw [if_pos hl] at p
          exact ⟨a, vs, rfl, SqT.of eh, by rw [← Paired.length rv]; exact hl, ρ, xs, s, hh, rv, hs, cs, p⟩
        · rw [if_neg hl] at p
          exact p.elim
      | _ => exact p.elim
  | _ => exact p.elim
theorem s_asg {tg : Expr} {is : List Nat} {t : Gt} (he : PE X e (T g W A)) (hg : PG X tg (TGm g is t)) (hs : swapsWithSole [tg] e pos.line X.env = pure false := by rfl) (hw : swappedStores [tg] e X.env = pure none := by rfl)
    (h1 : (assignEach [tg] X.env).map (·.2) = [assign tg X.env] := by rfl) : PS X (.Assign [tg] e pos) (TSm g W (sAsg A t)) := by
  refine PS.im (ps_asg he hg hs hw h1) fun D σ H q => AtS.seqE (rel := Rl g) (m := A) (k := fun u s h1 => match t u s h1 with | some s1 => .nx s1 h1 | none => .stuck) q fun ρ1 x s h1 b H1 hs c1 r1 p => ?_
  refine ⟨ρ1, x, s, h1, r1, hs, c1, ?_⟩
  cases et : t x s h1 with
  | none => rw [et] at p; exact p.elim
  | some s1 =>
    rw [et] at p
    exact fun σ1 hs1 _ => p ρ1 σ1 H1 (Wd.refl _) c1 hs1
theorem s_set {i : Nat} {x : Str} {pos' : Pos} (hN : X.N.Nodup) (he : PE X e (T g W A)) (hi : X.N[i]? = some x := by rfl) (hx : Loc X.env.scope x := by first | exact Or.inl rfl | exact Or.inr rfl) (hs : swapsWith e (some (.Name x pos')) pos.line X.env = pure false := by rfl) (hf : X.fn x = true ∨ X.env.scope.names.lookup x = some .local := by first | exact .inl rfl | exact .inr rfl) :
    PS X (.Assign [.Name x pos'] e pos) (TSm g W (sAsg A (gtN i))) :=
  PS.im (ps_set hN hi hx he hs hf) fun D σ H q => AtS.seqE (rel := Rl g) (m := A) (k := fun u s h1 => .nx (s.set i (some u)) h1) q fun ρ1 u s h1 v H1 hs c1 r1 p =>
    p ρ1 _ H1 (Wd.refl _) c1 (Paired.set (F := Rol g ρ1) (x := some u) (y := some v) r1 i hs)

/-! ### for -/
def TIt (g : Gc) (W : WX) (m : Mi) : TI := fun σ H R' => At g (ItOk g) m (WE W σ) σ H R'
theorem PI.im {tg it : Expr} {t t' : TI} (h : PI X tg it t) (i : ∀ σ H Q, t' σ H Q → t σ H Q) : PI X tg it t' := ⟨fun pins s σ H R I q => h.run pins s σ H R I (i σ H R q)⟩
theorem ItOk.mono {ρ ρ' : Wd} {it : Itm} {J : It} (e : Wd.Le ρ ρ') (k : ItOk g ρ it J) : ItOk g ρ' it J := fun ρ2 i h H e2 c2 => k ρ2 i h H (e.lx.trans e2) c2
theorem s_for {tg iter : Expr} {body : List Stmt} {mi : Mi} {is : List Nat} {t : Gt} (hp : PassesOwn (model X.prog X.w) X.A X.env X.xe) (hc : X.calm = true) (hi : PI X tg iter (TIt g W mi)) (hg : PG X tg (TGm g is t)) (hb : PSs X body (TSm g W M))
    (hs : ∀ x, foldedSetIterable iter X.env x = pure x := by intro _; rfl) : PS X (.For tg iter body [] pos) (TSm g W (sFor mi t M)) := by
  refine PS.im (ps_for hp hc hi hg hb hs) fun D σ H q => AtS.seqE (rel := ItOk g) (m := mi) (k := fun it s h1 => loopS it t M lim 0 s h1) q fun ρ1 it s h1 J H1 hs c1 k1 p => ?_
  refine ⟨fun i n σ H => ∃ ρ s h, Wd.Le ρ1 ρ ∧ Rsl g ρ s σ ∧ Cs g ρ h H ∧ PostS g W ρ (loopS it t M n i s h) D, ⟨lim, ρ1, s, h1, Wd.refl _, hs, c1, p⟩, ?_⟩
  rintro i n σ H ⟨ρ, s, h, e1, hs, cs, p⟩
  have kk := k1 ρ i h H e1.lx cs
  cases n with
  | zero => exact p.elim
  | succ n =>
    unfold loopS at p
    cases ei : it i h with
    | ok o h2 =>
      rw [ei] at p kk
      cases o with
      | none =>
        obtain ⟨rfl, st⟩ := kk
        exact .inl ⟨st, p ρ σ H (Wd.refl _) cs hs⟩
      | some x =>
        obtain ⟨go, yl⟩ := kk
        refine .inr ⟨go, fun σ' H' => ∃ ρ s h, Wd.Le ρ1 ρ ∧ Rsl g ρ s σ' ∧ Cs g ρ h H' ∧ PostS g W ρ (loopS it t M n (i + 1) s h) D, fun σ' H' z => ⟨n, Nat.lt_succ_self n, z⟩, fun v H' y => ?_⟩
        obtain ⟨ρ2, e2, c2, r2⟩ := yl v H' y
        refine ⟨ρ2, x, s, h2, r2, Rsl.mono e2 hs, c2, ?_⟩
        simp only at p
        cases et : t x s h2 with
        | none => rw [et] at p; exact p.elim
        | some s1 =>
          rw [et] at p
          simp only at p
          refine fun σ1 hs1 _ => ⟨ρ2, s1, h2, hs1, c2, ?_⟩
          cases eb : M s1 h2 with
          | nx s2 h3 =>
            rw [eb] at p
            exact fun ρ3 σ3 H3 e3 c3 r3 => ⟨ρ3, s2, h3, (e1.trans e2).trans e3, r3, c3, PostS.mono (e2.trans e3) p⟩
          | ct s2 h3 =>
            rw [eb] at p
            exact fun ρ3 σ3 H3 e3 c3 r3 => ⟨ρ3, s2, h3, (e1.trans e2).trans e3, r3, c3, PostS.mono (e2.trans e3) p⟩
          | bk s2 h3 =>
            rw [eb] at p
            exact fun ρ3 σ3 H3 e3 c3 r3 => p ρ3 σ3 H3 (e2.trans e3) c3 r3
          | rt u h3 =>
            rw [eb] at p
            exact fun ρ3 σ3 H3 e3 c3 r3 => p ρ3 σ3 H3 (e2.trans e3) c3 r3
          | ex c f s2 h3 =>
            rw [eb] at p
            exact XpS.mono e2 p
          | stuck =>
            rw [eb] at p
            exact p.elim
    | ex c f h2 => rw [ei] at p; exact p.elim
    | stuck => rw [ei] at p; exact p.elim

/-! ### what a loop walks -/
def itL (n : Nat) : Itm := fun i h => match h[n]? with
  | some (.lst xs) => .ok xs[i]? h
  | _ => .stuck
def itT (n : Nat) : Itm := fun i h => match h[n]? with
  | some (.tup xs) => .ok xs[i]? h
  | _ => .stuck
def itR (lo : Int) (n : Nat) : Itm := fun i h => if i < n then .ok (some (.int (lo + i))) h else .ok none h
def iL (a : Me) : Mi := fun s h => (a s h).bind fun u h1 => match u with
  | .loc n => match h1[n]? with
    | some (.lst _) => .ok (itL n) h1
    | _ => .stuck
  | _ => .stuck
def iT (a : Me) : Mi := fun s h => (a s h).bind fun u h1 => match u with
  | .loc n => match h1[n]? with
    | some (.tup _) => .ok (itT n) h1
    | _ => .stuck
  | _ => .stuck
def iR1 (L : Ml) : Mi := fun s h => (L s h).bind fun us h1 => match us with
  | [.int j] => if -(2 ^ 62) ≤ j ∧ j < 2 ^ 62 then .ok (itR 0 j.toNat) h1 else .stuck
  | _ => .stuck
def iR2 (L : Ml) : Mi := fun s h => (L s h).bind fun us h1 => match us with
  | [.int i, .int j] => if -(2 ^ 62) ≤ i ∧ i < 2 ^ 62 ∧ -(2 ^ 62) ≤ j ∧ j < 2 ^ 62 then .ok (itR i (j - i).toNat) h1 else .stuck
  | _ => .stuck
theorem itL_ok {K : PySem.W.Frag} {ρ : Wd} {n : Nat} {a : Addr} (ea : ρ.as[n]? = some a) : ItOk g ρ (itL n) (Itl K a) := fun ρ2 i h H e2 c2 => by
  unfold itL
  cases eh : h[n]? with
  | none => trivial
  | some o =>
    cases o with
    | lst xs =>
      have ea2 := pre_getx e2 ea
      obtain ⟨vs, rv, q⟩ := c2.at_ n _ a eh ea2
      cases ex : xs[i]? with
      | none =>
        show ItP _ _ _ _ _ _ (.ok xs[i]? h)
        rw [ex]
        refine ⟨rfl, vs, SqL.of q, ?_⟩
        rw [← Paired.length rv]
        exact List.getElem?_eq_none_iff.mp ex
      | some x =>
        obtain ⟨v, ev, r⟩ := Paired.get rv ex
        show ItP _ _ _ _ _ _ (.ok xs[i]? h)
        rw [ex]
        refine ⟨⟨vs, v, SqL.of q, ev⟩, fun v' H' y => ?_⟩
        obtain ⟨rfl, y⟩ := y
        have ev' := y vs (SqL.of q)
        rw [ev] at ev'
        cases ev'
        exact ⟨ρ2, Wd.refl _, c2, r⟩
    | _ => trivial
theorem itT_ok {K : PySem.W.Frag} {ρ : Wd} {n : Nat} {a : Addr} (ea : ρ.as[n]? = some a) : ItOk g ρ (itT n) (Itt K a) := fun ρ2 i h H e2 c2 => by
  unfold itT
  cases eh : h[n]? with
  | none => trivial
  | some o =>
    cases o with
    | tup xs =>
      have ea2 := pre_getx e2 ea
      obtain ⟨vs, ob, rv, _, q⟩ := c2.at_ n _ a eh ea2
      have q : SqT K H a vs := .inl (.inr ⟨ob, q⟩)
      cases ex : xs[i]? with
      | none =>
        show ItP _ _ _ _ _ _ (.ok xs[i]? h)
        rw [ex]
        refine ⟨rfl, vs, q, ?_⟩
        rw [← Paired.length rv]
        exact List.getElem?_eq_none_iff.mp ex
      | some x =>
        obtain ⟨v, ev, r⟩ := Paired.get rv ex
        show ItP _ _ _ _ _ _ (.ok xs[i]? h)
        rw [ex]
        refine ⟨⟨vs, v, q, ev⟩, fun v' H' y => ?_⟩
        obtain ⟨rfl, y⟩ := y
        have ev' := y vs (q)
        rw [ev] at ev'
        cases ev'
        exact ⟨ρ2, Wd.refl _, c2, r⟩
    | _ => trivial
theorem itR_ok {ρ : Wd} {lo : Int} {n : Nat} : ItOk g ρ (itR lo n) (Itr lo n) := fun ρ2 i h H e2 c2 => by
  unfold itR
  by_cases hi : i < n
  · rw [if_pos hi]
    refine ⟨hi, fun v H' y => ?_⟩
    obtain ⟨rfl, rfl⟩ := y
    exact ⟨ρ2, Wd.refl _, c2, rfl⟩
  · rw [if_neg hi]
    exact ⟨rfl, Nat.le_of_not_lt hi⟩
theorem i_list {tg : Expr} (ha : PE X a (T g W A)) : PI X tg a (TIt g W (iL A)) := by
  refine PI.im (pi_list ha) fun σ H R' q => At.seq (rel := Rl g) q fun ρ1 x s h1 v H1 hs1 c1 r1 p1 => ?_
  cases x with
  | loc n =>
    simp only at p1
    cases eh : h1[n]? with
    | none => rw [eh] at p1; exact p1.elim
    | some o =>
      rw [eh] at p1
      cases o with
      | lst xs =>
        obtain ⟨ad, vs, rfl, ea, rv, q⟩ := c1.lst eh r1
        exact ⟨ad, rfl, ⟨vs, SqL.of q⟩, Post.here (rel := ItOk g) p1 c1 (itL_ok ea)⟩
      | _ => exact p1.elim
  | _ => exact p1.elim
theorem i_tup {tg : Expr} (ha : PE X a (T g W A)) : PI X tg a (TIt g W (iT A)) := by
  refine PI.im (pi_tup ha) fun σ H R' q => At.seq (rel := Rl g) q fun ρ1 x s h1 v H1 hs1 c1 r1 p1 => ?_
  cases x with
  | loc n =>
    simp only at p1
    cases eh : h1[n]? with
    | none => rw [eh] at p1; exact p1.elim
    | some o =>
      rw [eh] at p1
      cases o with
      | tup xs =>
        obtain ⟨ad, vs, o, rfl, ea, rv, _, q⟩ := c1.tup eh r1
        exact ⟨ad, rfl, ⟨vs, .inl (.inr ⟨o, q⟩)⟩, Post.here (rel := ItOk g) p1 c1 (itT_ok ea)⟩
      | _ => exact p1.elim
  | _ => exact p1.elim
theorem i_range1 {tg : Expr} {L : Ml} {p : Pos} (hg : Gl X "range") (hm : X.mg "range" = none) (ha : PA X [a] (TL g W L)) (hs : starEach [a] X.env = [(false, eval a X.env)] := by rfl) : PI X tg (.Call (.Name "range" p) [a] [] pos) (TIt g W (iR1 L)) := by
  refine PI.im (pi_range1 hg hm ha hs) fun σ H R' q => At.seq (rel := Rls g) q fun ρ1 xs s h1 v H1 hs1 c1 r1 p1 => ?_
  cases r1 with
  | nil => exact p1.elim
  | cons r1 r2 =>
    rename_i x v xs vs
    cases r2 with
    | cons _ _ => cases x <;> exact p1.elim
    | nil =>
      cases x with
      | int j =>
        simp only at p1
        by_cases hj : -(2 ^ 62) ≤ j ∧ j < 2 ^ 62
        · rw [if_pos hj] at p1
          exact ⟨j, by rw [r1], hj.1, hj.2, Post.here (rel := ItOk g) p1 c1 itR_ok⟩
        · rw [if_neg hj] at p1
          exact p1.elim
      | _ => exact p1.elim
theorem i_range2 {tg : Expr} {L : Ml} {p : Pos} (hg : Gl X "range") (hm : X.mg "range" = none) (ha : PA X [a, b] (TL g W L)) (hs : starEach [a, b] X.env = [(false, eval a X.env), (false, eval b X.env)] := by rfl) (hs2 : starEach [b] X.env = [(false, eval b X.env)] := by rfl) :
    PI X tg (.Call (.Name "range" p) [a, b] [] pos) (TIt g W (iR2 L)) := by
  refine PI.im (pi_range2 hg hm ha hs hs2) fun σ H R' q => At.seq (rel := Rls g) q fun ρ1 xs s h1 v H1 hs1 c1 r1 p1 => ?_
  cases r1 with
  | nil => exact p1.elim
  | cons r1 r2 =>
    rename_i x v xs vs
    cases r2 with
    | nil => cases x <;> exact p1.elim
    | cons r2 r3 =>
      rename_i y w ys ws
      cases x with
      | int i =>
        cases y with
        | int j =>
          cases r3 with
          | cons _ _ => exact p1.elim
          | nil =>
            simp only at p1
            by_cases hj : -(2 ^ 62) ≤ i ∧ i < 2 ^ 62 ∧ -(2 ^ 62) ≤ j ∧ j < 2 ^ 62
            · rw [if_pos hj] at p1
              exact ⟨i, j, by rw [r1, r2], hj, Post.here (rel := ItOk g) p1 c1 itR_ok⟩
            · rw [if_neg hj] at p1
              exact p1.elim
        | _ => exact p1.elim
      | _ => exact p1.elim
end
end Vm

set_option Elab.async false
set_option linter.all false
set_option maxRecDepth 100000
set_option maxHeartbeats 4100000
namespace Vm
open L2 PyProof.Rows PySem PySem.Spec

/-! ### list comprehensions -/
def bYes : Mb := fun _ h => .ok true h
def wipeM (s : Sl) : List Nat → Sl
  | [] => s
  | v :: vs => (wipeM s vs).set v none
def loopC (it : Itm) (t : Gt) (q : Mb) (e : Me) (s : Sl) (n : Nat) : Nat → Nat → Mh → R U
  | 0, _, _ => .stuck
  | k + 1, i, h => match it i h with
    | .ok none h1 => .ok (.loc n) h1
    | .ok (some x) h1 => match t x s h1 with
      | some s1 => match q s1 h1 with
        | .ok true h2 => match e s1 h2 with
          | .ok y h3 => match h3[n]? with
            | some (.lst acc) => if acc.length < 100000 then loopC it t q e s n k (i + 1) (h3.set n (.lst (acc ++ [y]))) else .stuck
            | _ => .stuck
          | _ => .stuck
        | .ok false h2 => loopC it t q e s n k (i + 1) h2
        | _ => .stuck
      | none => .stuck
    | _ => .stuck
def mLc (mi : Mi) (t : Gt) (q : Mb) (e : Me) (vs : List Nat) : Me := fun s h => (mi s h).bind fun it h1 => loopC it t q e (wipeM s vs) h1.length lim 0 (h1 ++ [.lst []])
abbrev W0 : WX := fun _ _ _ _ => False
section
variable {g : Gc} {ρ ρ' : Wd} {W : WX}
theorem Rsl.wipe {s : Sl} {σ : L2.St} (r : Rsl g ρ s σ) : ∀ vs, Rsl g ρ (wipeM s vs) (wipe σ vs)
  | [] => r
  | v :: vs => Paired.set (F := Rol g ρ) (x := none) (y := none) trivial v (Rsl.wipe r vs)
theorem wipe_self {σ : L2.St} : ∀ {vs : List Nat}, wipe (wipe σ vs) vs = wipe σ vs := fun {vs} => by
  have gen : ∀ (us ws : List Nat), (∀ i ∈ us, i ∈ ws) → wipe (wipe σ us) ws = wipe σ ws := fun us => by
    induction us with
    | nil => intro ws _; rfl
    | cons u us ih =>
      intro ws hw
      show wipe ((wipe σ us).set u none) ws = wipe σ ws
      rw [wipe_set (hw u List.mem_cons_self)]
      exact ih ws fun i hi => hw i (List.mem_cons_of_mem _ hi)
  exact gen vs vs fun _ h => h
theorem lim_line {n : Nat} (h : n < 100000) : n < sizeLine := by
  rw [sizeLine_eq]
  omega
end
section
variable {X : Cx} {g : Gc} {W : WX} {a b c e : Expr} {A B Cc : Me} {pos : Pos}
theorem b_yes : PTs X [] (TB g W bYes) := ⟨fun pins s σ H Q I q => pts_nil.run pins s σ H Q I (by obtain ⟨ρ, s, h, hs, cs, p⟩ := q; exact Post.here (rel := relB) p cs rfl)⟩
theorem b_one {t : Mb} (h : PT X c (TB g W t)) : PTs X [c] (TB g W t) := pts_one h
/-- the comprehension's reading -/
theorem lc_read {mi : Mi} {is : List Nat} {t : Gt} {q : Mb} {el : Me} {vs : List Nat} (hv : ∀ i ∈ is, i ∈ vs) {σ : L2.St} {H : Hp} {Q : VK} (z : T g W (mLc mi t q el vs) σ H Q) : tLc (TIt g W mi) (TGm g is t) (TB g W0 q) (T g W0 el) vs σ H Q := by
  refine At.seq (rel := ItOk g) z fun ρ1 it s h1 J H1 hs c1 k1 p => ?_
  intro D hD
  have c0 : Cs g (ρ1.snoc D) (h1 ++ [.lst []]) (upd H1 D (.lst [])) := c1.new hD ⟨[], .nil, upd_same⟩
  have eD : (ρ1.snoc D).as[h1.length]? = some D := new_get ρ1 D c1.len
  refine ⟨fun i n H => ∃ ρ h, Wd.Le (ρ1.snoc D) ρ ∧ Cs g ρ h H ∧ Post g (Rl g) ρ (loopC it t q el (wipeM s vs) h1.length n i h) Q (WE W σ), ⟨lim, _, _, Wd.refl _, c0, Post.mono (pre_snoc _ _) p⟩, ?_⟩
  rintro i n H ⟨ρ, h, e1, cs, p⟩
  have e0 : Wd.Le ρ1 ρ := (pre_snoc _ _).trans e1
  have kk := k1 ρ i h H e0.lx cs
  have ws : Rsl g ρ (wipeM s vs) (wipe σ vs) := Rsl.mono e0 (Rsl.wipe hs vs)
  cases n with
  | zero => exact p.elim
  | succ n =>
    unfold loopC at p
    cases ei : it i h with
    | ok o h2 =>
      rw [ei] at p kk
      cases o with
      | none =>
        obtain ⟨rfl, st⟩ := kk
        exact .inl ⟨st, p ρ (.ref D) H (Wd.refl _) cs ⟨D, pre_get e1 eD, rfl⟩⟩
      | some x =>
        obtain ⟨go, yl⟩ := kk
        refine .inr ⟨go, fun H' => ∃ ρ h, Wd.Le (ρ1.snoc D) ρ ∧ Cs g ρ h H' ∧ Post g (Rl g) ρ (loopC it t q el (wipeM s vs) h1.length n (i + 1) h) Q (WE W σ), fun H' w => ⟨n, Nat.lt_succ_self n, w⟩, fun v H' y => ?_⟩
        obtain ⟨ρ2, e2, c2, r2⟩ := yl v H' y
        refine ⟨ρ2, x, wipeM s vs, h2, r2, Rsl.mono e2 ws, c2, ?_⟩
        simp only at p
        cases et : t x (wipeM s vs) h2 with
        | none => rw [et] at p; exact p.elim
        | some s1 =>
          rw [et] at p
          simp only at p
          refine fun σ1 hs1 hw1 => ⟨(hw1 vs hv).trans wipe_self, ρ2, s1, h2, hs1, c2, ?_⟩
          cases eq : q s1 h2 with
          | ok k h3 =>
            rw [eq] at p
            intro ρ3 k' H3 e3 c3 r3
            cases r3
            cases k with
            | true =>
              rw [if_pos rfl]
              simp only at p
              refine ⟨ρ3, s1, h3, Rsl.mono e3 hs1, c3, ?_⟩
              cases ee : el s1 h3 with
              | ok y h4 =>
                rw [ee] at p
                simp only at p
                intro ρ4 yv H4 e4 c4 r4
                have e14 : Wd.Le (ρ1.snoc D) ρ4 := ((e1.trans e2).trans e3).trans e4
                cases en : h4[h1.length]? with
                | none => rw [en] at p; exact p.elim
                | some o =>
                  rw [en] at p
                  cases o with
                  | lst acc =>
                    simp only at p
                    obtain ⟨accv, ra, ea⟩ := c4.at_ _ _ D en (pre_get e14 eD)
                    by_cases hl : acc.length < 100000
                    · rw [if_pos hl] at p
                      refine ⟨accv, ea, by rw [← Paired.length ra]; exact lim_line hl, ρ4, _, e14, c4.put (o := .lst (acc ++ [y])) (pre_get e14 eD) (nfL ea) ⟨accv ++ [yv], Paired.app ra (.cons r4 .nil), upd_same⟩ (c4.live en (pre_get e14 eD)), Post.mono ((e2.trans e3).trans e4) p⟩
                    · rw [if_neg hl] at p
                      exact p.elim
                  | _ => exact p.elim
              | ex c f h4 => rw [ee] at p; exact p.elim
              | stuck => rw [ee] at p; exact p.elim
            | false =>
              rw [if_neg Bool.false_ne_true]; exact ⟨ρ3, h3, (e1.trans e2).trans e3, c3, Post.mono (e2.trans e3) p⟩
          | ex c f h3 => rw [eq] at p; exact p.elim
          | stuck => rw [eq] at p; exact p.elim
    | ex c f h2 => rw [ei] at p; exact p.elim
    | stuck => rw [ei] at p; exact p.elim
theorem e_lc {elt tg iter : Expr} {ifs : List Expr} {scope : Scope} {own : List (Str × Nat)} {mi : Mi} {is : List Nat} {t : Gt} {q : Mb} {el : Me} (hc : X.calm = true) (hN : X.N.Nodup) (hi : PI X tg iter (TIt g W mi)) (ok : BlkOk X.N X.env.scope scope own)
    (hg : ∀ (s : Shared) (H : Hp) (C : Addr) (cl : List (Str × Addr)) (fp : List Addr), PG (X.blk s H scope (compEnvC scope cl C X.env) fp) tg (TGm g is t)) (ht : ∀ (s : Shared) (H : Hp) (C : Addr) (cl : List (Str × Addr)) (fp : List Addr), PTs (X.blk s H scope (compEnvC scope cl C X.env) fp) ifs (TB g W0 q))
    (he : ∀ (s : Shared) (H : Hp) (C : Addr) (cl : List (Str × Addr)) (fp : List Addr), PE (X.blk s H scope (compEnvC scope cl C X.env) fp) elt (T g W0 el)) (hv : ∀ i ∈ is, i ∈ own.map (·.2)) (hs : ∀ x, foldedSetIterable iter X.env x = pure x := by intro _; rfl) :
    PE X (.ListComp elt [⟨tg, iter, ifs, 0⟩] scope pos) (T g W (mLc mi t q el (own.map (·.2)))) :=
  PE.im (pe_lc hc hN hi ok hg ht he hs) fun σ H Q z => lc_read hv z
theorem s_setLc {i : Nat} {y : Str} {py spos : Pos} {elt tg iter : Expr} {ifs : List Expr} {scope : Scope} {own : List (Str × Nat)} {mi : Mi} {is : List Nat} {t : Gt} {q : Mb} {el : Me} (hc : X.calm = true) (hN : X.N.Nodup) (hy : X.N[i]? = some y) (hyl : X.env.scope.names.lookup y = some .local)
    (hsw : swapsWith (.ListComp elt [⟨tg, iter, ifs, 0⟩] scope pos) (some (.Name y py)) spos.line X.env = pure true) (hi : PI X tg iter (TIt g W mi)) (ok : BlkOk X.N X.env.scope scope own)
    (hg : ∀ (s : Shared) (H : Hp) (C : Addr) (cl : List (Str × Addr)) (fp : List Addr), PG (X.blk s H scope (compEnvC scope cl C X.env) fp) tg (TGm g is t)) (ht : ∀ (s : Shared) (H : Hp) (C : Addr) (cl : List (Str × Addr)) (fp : List Addr), PTs (X.blk s H scope (compEnvC scope cl C X.env) fp) ifs (TB g W0 q))
    (he : ∀ (s : Shared) (H : Hp) (C : Addr) (cl : List (Str × Addr)) (fp : List Addr), PE (X.blk s H scope (compEnvC scope cl C X.env) fp) elt (T g W0 el)) (hv : ∀ i ∈ is, i ∈ own.map (·.2)) (hs : ∀ x, foldedSetIterable iter X.env x = pure x := by intro _; rfl) :
    PS X (.Assign [.Name y py] (.ListComp elt [⟨tg, iter, ifs, 0⟩] scope pos) spos) (TSm g W (sAsg (mLc mi t q el (own.map (·.2))) (gtN i))) :=
  PS.im (ps_setLc hc hN hy hyl hsw hi ok hg ht he hs) fun D σ H z => lc_read hv (AtS.seqE (rel := Rl g) (k := fun u s h1 => .nx (s.set i (some u)) h1) z fun ρ1 u s h1 v H1 hs c1 r1 p =>
    p ρ1 _ H1 (Wd.refl _) c1 (Paired.set (F := Rol g ρ1) (x := some u) (y := some v) r1 i hs))
end

/-! ### a def -/
def finR : RS → R U
  | .nx _ h => .ok .non h
  | .rt u h => .ok u h
  | .ex c f _ h => .ex c f h
  | _ => .stuck
def runB (N : Nat) (m : Ms) : List U → Mh → R U := fun us h => finR (m (us.map some ++ List.replicate (N - us.length) none) h)
theorem spM_len {g : Gc} {n : Nat} {d : List U → Mh → R U} : ∀ vs H Q E, spM g n d vs H Q E → vs.length = n := fun _ _ _ _ h => h.1
theorem run_read {g : Gc} {N : List Str} {n : Nat} {m : Ms} {vs : List V} {H : Hp} {Q : VK} {E : XK} (q : spM g n (runB N.length m) vs H Q E) : TSm g (fun cls d _ H => E cls d H) m { nx := fun _ H' => Q .non H', rt := Q } (L2.start N vs) H := by
  obtain ⟨_, ρ, us, h, r, cs, p⟩ := q
  refine ⟨ρ, us.map some ++ List.replicate (N.length - us.length) none, h, ?_, cs, ?_⟩
  · unfold L2.start
    refine Paired.app (Rls.somes r) ?_
    rw [← Paired.length r]
    exact Paired.rep (F := Rol g ρ) (x := none) (y := none) trivial _
  · unfold runB at p
    cases em : m (us.map some ++ List.replicate (N.length - us.length) none) h with
    | nx s h1 => rw [em] at p; exact fun ρ2 σ H2 e2 c2 _ => p ρ2 .non H2 e2 c2 rfl
    | rt u h1 => rw [em] at p; exact fun ρ2 v H2 e2 c2 r2 => p ρ2 v H2 e2 c2 r2
    | bk s h1 => rw [em] at p; exact p.elim
    | ct s h1 => rw [em] at p; exact p.elim
    | ex c f s h1 => rw [em] at p; exact fun ρ2 σ H2 e2 c2 _ => p ρ2 H2 e2 c2
    | stuck => rw [em] at p; exact p.elim
/-- a def's promise by its body's mirror -/
theorem fn_ok {P : Program} {w : World} {K : PySem.W.Frag} {mg : Str → Option Value} {base : Heap} {g : Gc} {x qual : Str} {st : Stmt} {f : Addr} {fd : FuncData} {N ps : List Str} {k : Nat} {m : Ms} (F : Fun K x qual st f fd) (S : FnScope N ps (defScope st))
    (body : ∀ (cdv : Value) (A : Around) (outer : List Env) (s : Shared) (H : Hp) (E : XK), Room k (A.deeper (envOfC qual (defScope st) s.heap.objs.size f cdv)) →
      PSs (cxOf (L2.CX P w) P w K mg base N qual (defScope st) f cdv A outer s H E) (defBody st) (TSm g (fun cls d _ H => E cls d H) m)) :
    FnOk P w K mg base (L2.CX P w) (k + 1) f fd ps (spM g ps.length (runB N.length m)) :=
  F.okX S spM_len fun cdv A outer s H vs Q E hr h => ⟨_, body cdv A outer s H E hr, run_read h⟩
theorem fn_ok2 {P : Program} {w : World} {K : PySem.W.Frag} {mg : Str → Option Value} {base : Heap} {g : Gc} {x qual : Str} {st : Stmt} {f : Addr} {fd : FuncData} {N ps : List Str} {k : Nat} {m : Ms} (F : Fun K x qual st f fd) (S : FnScope N ps (defScope st))
    (body : ∀ (cdv : Value) (A : Around) (outer : List Env) (s : Shared) (H : Hp) (E : XK), Room k (A.deeper (envOfC qual (defScope st) s.heap.objs.size f cdv)) →
      (cxOf (L2.CX P w) P w K mg base N qual (defScope st) f cdv A outer s H E).A.units + 65 < cLine →
      PassesOwn (model P w) (cxOf (L2.CX P w) P w K mg base N qual (defScope st) f cdv A outer s H E).A (cxOf (L2.CX P w) P w K mg base N qual (defScope st) f cdv A outer s H E).env (cxOf (L2.CX P w) P w K mg base N qual (defScope st) f cdv A outer s H E).xe →
      Takes (cxOf (L2.CX P w) P w K mg base N qual (defScope st) f cdv A outer s H E) (fun cls d _ H => E cls d H) →
      PSs (cxOf (L2.CX P w) P w K mg base N qual (defScope st) f cdv A outer s H E) (defBody st) (TSm g (fun cls d _ H => E cls d H) m)) :
    FnOk P w K mg base (L2.CX P w) (k + 1) f fd ps (spM g ps.length (runB N.length m)) :=
  fn_ok F S fun cdv A outer s H E hr => body cdv A outer s H E hr (by have := hr.un; show (A.deeper (envOfC qual (defScope st) s.heap.objs.size f cdv)).units + 65 < cLine; omega) (passes_of rfl) (takes_of rfl rfl rfl rfl)
end Vm

set_option Elab.async false
set_option linter.all false
set_option maxRecDepth 100000
set_option maxHeartbeats 4100000
namespace Vm
open L2 PyProof.Rows PySem PySem.Spec

/-! ### data of any depth, read off a mirror's heap -/
def rdL (f : U → Option PyData) : List U → Option (List PyData)
  | [] => some []
  | u :: us => match f u with
    | some d => match rdL f us with
      | some ds => some (d :: ds)
      | none => none
    | none => none
def rd (h : Mh) : Nat → U → Option PyData
  | _, .non => some .none
  | _, .bl b => some (.bool b)
  | _, .int i => some (.int i)
  | _, .str x => some (.str x)
  | 0, .loc _ => none
  | k + 1, .loc n => match h[n]? with
    | some (.lst xs) => match rdL (rd h k) xs with
      | some ds => some (.list ds)
      | none => none
    | some (.tup xs) => match rdL (rd h k) xs with
      | some ds => some (.tuple ds)
      | none => none
    | _ => none
  | _, .scr => none
  | _, .exn => none
  | _, .dat d => some d
  | _, .obj _ _ => none
  | _, .pr _ => none
theorem rdL_dp {g : Gc} {K : PySem.W.Frag} {ρ : Wd} {H : Hp} {f : U → Option PyData} (hf : ∀ u v d, Rl g ρ u v → f u = some d → Dp K H v d) : ∀ (us : List U) (vs : List V) (ds : List PyData), Rls g ρ us vs → rdL f us = some ds → DpAll K H vs ds
  | [], _, _, .nil, e => by
    unfold rdL at e
    cases e
    exact .nil
  | u :: us, _, ds, .cons r rs, e => by
    unfold rdL at e
    cases e1 : f u with
    | none => rw [e1] at e; cases e
    | some d =>
      rw [e1] at e
      cases e2 : rdL f us with
      | none => rw [e2] at e; cases e
      | some dt =>
        rw [e2] at e
        cases e
        exact .cons (hf _ _ _ r e1) (rdL_dp hf _ _ _ rs e2)
theorem rd_dp {g : Gc} {ρ : Wd} {h : Mh} {H : Hp} (cs : Cs g ρ h H) : ∀ (k : Nat) (u : U) (v : V) (d : PyData), Rl g ρ u v → rd h k u = some d → Dp g.K H v d := fun k => by
  induction k with
  | zero =>
    intro u v d r e
    cases u with
    | non => unfold rd at e; cases e; cases r; exact .non
    | bl b => unfold rd at e; cases e; cases r; exact .bl b
    | int b => unfold rd at e; cases e; cases r; exact .int b
    | str b => unfold rd at e; cases e; cases r; exact .str b
    | loc n => unfold rd at e; cases e
    | scr => unfold rd at e; cases e
    | exn => unfold rd at e; cases e
    | dat d => unfold rd at e; cases e; exact Dq.dp _ _ (Dq.hle cs.fzH _ _ r.2)
    | obj c fs => unfold rd at e; cases e
    | pr ds => unfold rd at e; cases e
  | succ k ih =>
    intro u v d r e
    cases u with
    | non => unfold rd at e; cases e; cases r; exact .non
    | bl b => unfold rd at e; cases e; cases r; exact .bl b
    | int b => unfold rd at e; cases e; cases r; exact .int b
    | str b => unfold rd at e; cases e; cases r; exact .str b
    | scr => unfold rd at e; cases e
    | exn => unfold rd at e; cases e
    | dat d => unfold rd at e; cases e; exact Dq.dp _ _ (Dq.hle cs.fzH _ _ r.2)
    | obj c fs => unfold rd at e; cases e
    | pr ds => unfold rd at e; cases e
    | loc n =>
      unfold rd at e
      cases en : h[n]? with
      | none => rw [en] at e; cases e
      | some o =>
        rw [en] at e
        cases o with
        | lst xs =>
          simp only at e
          cases e2 : rdL (rd h k) xs with
          | none => rw [e2] at e; cases e
          | some ds =>
            rw [e2] at e
            cases e
            obtain ⟨a, vs, rfl, _, rv, ea⟩ := cs.lst en r
            exact .lst (SqL.of ea) (rdL_dp ih _ _ _ rv e2)
        | tup xs =>
          simp only at e
          cases e2 : rdL (rd h k) xs with
          | none => rw [e2] at e; cases e
          | some ds =>
            rw [e2] at e
            cases e
            obtain ⟨a, vs, o, rfl, _, rv, _, ea⟩ := cs.tup en r
            exact .tup (.inl (.inr ⟨o, ea⟩)) (rdL_dp ih _ _ _ rv e2)
        | tpl xs => cases e
        | ins c fs => cases e
        | exc c fs => cases e
        | ded => cases e

/-! ### ints -/
def fI (c : Int → Int → Bool) (k : Int → Int → U) : F2 := fun x y h => match x, y with
  | .int i, .int j => if c i j then .ok (k i j) h else .stuck
  | _, _ => .stuck
def fLt : F2 := fI (fun _ _ => true) fun i j => .bl (decide (i < j))
def fLe : F2 := fI (fun _ _ => true) fun i j => .bl (decide (i ≤ j))
def fGt : F2 := fI (fun _ _ => true) fun i j => .bl (decide (j < i))
def fGe : F2 := fI (fun _ _ => true) fun i j => .bl (decide (j ≤ i))
def fSub : F2 := fI (fun _ _ => true) fun i j => .int (i - j)
def fMod : F2 := fI (fun _ j => decide (0 < j)) fun i j => .int (i % j)
def fDiv : F2 := fI (fun _ j => decide (0 < j ∧ j < 1073741824)) fun i j => .int (i / j)
def fPow : F2 := fI (fun i j => decide (0 ≤ j ∧ j ≤ 1000000 ∧ i.natAbs < 2 ^ 64)) fun i j => .int (i ^ j.toNat)
section
variable {g : Gc}
theorem s_fI {c : Int → Int → Bool} {C : Int → Int → Prop} {k : Int → Int → U} {kv : Int → Int → V} (hc : ∀ i j, c i j = true → C i j) (hk : ∀ ρ i j, Rl g ρ (k i j) (kv i j)) : S2 g (fI c k) (rI C kv) := fun E ρ x y vx vy h H Q rx ry cs p => by
  cases x with
  | int i =>
    cases y with
    | int j =>
      unfold fI at p
      simp only at p
      cases ec : c i j with
      | true => rw [ec, if_pos rfl] at p; exact ⟨i, j, rx, ry, hc i j ec, Post.here (rel := Rl g) p cs (hk ρ i j)⟩
      | false => rw [ec, if_neg Bool.false_ne_true] at p; exact p.elim
    | _ => exact p.elim
  | _ => cases y <;> exact p.elim
theorem s_fI0 {k : Int → Int → U} {kv : Int → Int → V} (hk : ∀ ρ i j, Rl g ρ (k i j) (kv i j)) : S2 g (fI (fun _ _ => true) k) (rI0 kv) := fun E ρ x y vx vy h H Q rx ry cs p => by
  cases x with
  | int i =>
    cases y with
    | int j =>
      unfold fI at p
      simp only [if_true] at p
      exact ⟨i, j, rx, ry, Post.here (rel := Rl g) p cs (hk ρ i j)⟩
    | _ => exact p.elim
  | _ => cases y <;> exact p.elim
theorem s_lt : S2 g fLt (rI0 fun i j => .bl (decide (i < j))) := s_fI0 fun _ _ _ => rfl
theorem s_le : S2 g fLe (rI0 fun i j => .bl (decide (i ≤ j))) := s_fI0 fun _ _ _ => rfl
theorem s_gt : S2 g fGt (rI0 fun i j => .bl (decide (j < i))) := s_fI0 fun _ _ _ => rfl
theorem s_ge : S2 g fGe (rI0 fun i j => .bl (decide (j ≤ i))) := s_fI0 fun _ _ _ => rfl
theorem s_sub : S2 g fSub (rI0 fun i j => .int (i - j)) := s_fI0 fun _ _ _ => rfl
theorem s_mod : S2 g fMod (rI (fun _ j => 0 < j) fun i j => .int (i % j)) := s_fI (fun _ _ => of_decide_eq_true) fun _ _ _ => rfl
theorem s_div : S2 g fDiv (rI CDiv fun i j => .int (i / j)) := s_fI (fun i j h => (of_decide_eq_true h : 0 < j ∧ j < 1073741824)) fun _ _ _ => rfl
theorem s_pow : S2 g fPow (rI CPow fun i j => .int (i ^ j.toNat)) := s_fI (fun i j h => (of_decide_eq_true h : 0 ≤ j ∧ j ≤ 1000000 ∧ i.natAbs < 2 ^ 64)) fun _ _ _ => rfl
end

/-! ### + and * by the kinds of both -/
theorem OpR.or {X : Cx} {f : Value → Value → Sem Value} {r r' : R2} (h : OpR X f r) (h' : OpR X f r') : OpR X f (fun x y H Q => r x y H Q ∨ r' x y H Q) := fun pins s σ H x y v u Q I rx ry q => q.elim (h pins s σ H x y v u Q I rx ry) (h' pins s σ H x y v u Q I rx ry)
def okLen (n : Nat) : Bool := decide (n ≤ 100000)
def fAdd : F2 := fun x y h => match x, y with
  | .int i, .int j => .ok (.int (i + j)) h
  | .str a, .str b => if okLen (a.length + b.length) then .ok (.str (a ++ b)) h else .stuck
  | .loc n, .loc m => match h[n]?, h[m]? with
    | some (.lst xs), some (.lst ys) => if okLen (xs.length + ys.length) then newO (.lst (xs ++ ys)) h else .stuck
    | some (.tup xs), some (.tup ys) => if okLen (xs.length + ys.length) then (match xs, ys with
      | [], _ => .ok (.loc m) h
      | _ :: _, [] => .ok (.loc n) h
      | x :: xs, y :: ys => newO (.tup ((x :: xs) ++ (y :: ys))) h) else .stuck
    | _, _ => .stuck
  | _, _ => .stuck
def rCatX (K : PySem.W.Frag) : R2 := fun x y H Q => ∃ a b xs ys, x = .ref a ∧ y = .ref b ∧ SqT K H a xs ∧ SqT K H b ys ∧ xs.length + ys.length ≤ sizeLine ∧
  (xs = [] → Q (.ref b) H) ∧ (xs ≠ [] → ys = [] → Q (.ref a) H) ∧ (xs ≠ [] → ys ≠ [] → ∀ p o, o.dict = none → H p = none → Q (.ref p) (upd H p (.frz o (.tup (xs ++ ys)))))
abbrev rAddAll (K : PySem.W.Frag) : R2 := fun x y H Q => rI0 (fun i j => .int (i + j)) x y H Q ∨ ((∃ i j, x = .str i ∧ y = .str j ∧ i.length + j.length ≤ sizeLine ∧ Q (.str (i ++ j)) H) ∨ (rCat x y H Q ∨ rCatX K x y H Q))
section
variable {X : Cx} {g : Gc}
theorem op_catX : OpR X (binaryOp .Add) (rCatX X.K) := by
  intro pins s σ H x y v u Q I rx ry h; obtain ⟨a, b, xs, ys, rfl, rfl, ha, hb, hz, q0, q1, q2⟩ := h
  cases rx
  cases ry
  obtain ⟨its, r1, p1, _⟩ := I.tuple ha; obtain ⟨its2, r2, p2, _⟩ := I.tuple hb
  by_cases hx : xs = []
  · subst hx
    cases r1; exact cat_tup0 p1 p2 ⟨.ref b, H, I, rfl, q0 rfl⟩
  · refine HT.cat_tup p1 p2 (fun z => hx (r1.nil_iff.mp z)) (fun z => ⟨.ref a, H, I, rfl, q1 hx (r2.nil_iff.mp z)⟩) (fun z => ?_) (by rw [← r1.length, ← r2.length]; exact hz)
    exact ⟨.ref s.heap.objs.size, _, tup_laid I (r1.append r2) (by rw [List.length_append]; exact hz), rfl, q2 hx (fun w => z (r2.nil_iff.mpr w)) _ _ rfl (I.hok.fresh (Nat.le_refl _))⟩
theorem o_add : OpR X (binaryOp .Add) (rAddAll X.K) := OpR.or op_add (OpR.or op_add_str (OpR.or op_cat op_catX))
theorem okLen_line {n : Nat} (h : okLen n = true) : n ≤ sizeLine := big_line (of_decide_eq_true h)
theorem s_add {K : PySem.W.Frag} : S2 g fAdd (rAddAll K) := fun E ρ x y vx vy h H Q rx ry cs p => by
  cases x with
  | int i =>
    cases y with
    | int j => exact .inl ⟨i, j, rx, ry, Post.here (rel := Rl g) p cs rfl⟩
    | _ => exact p.elim
  | str i =>
    cases y with
    | str j =>
      simp only [fAdd] at p
      cases eo : okLen (i.length + j.length) with
      | true => rw [eo, if_pos rfl] at p; exact .inr (.inl ⟨i, j, rx, ry, okLen_line eo, Post.here (rel := Rl g) p cs rfl⟩)
      | false => rw [eo, if_neg Bool.false_ne_true] at p; exact p.elim
    | _ => exact p.elim
  | loc n =>
    cases y with
    | loc m =>
      simp only [fAdd] at p
      cases en : h[n]? with
      | none => rw [en] at p; exact p.elim
      | some o =>
        cases em : h[m]? with
        | none => rw [en, em] at p; cases o <;> exact p.elim
        | some o2 =>
          rw [en, em] at p
          cases o with
          | lst xs =>
            cases o2 with
            | lst ys =>
              simp only at p
              obtain ⟨a, vs, rfl, ea, rv, ha⟩ := cs.lst en rx
              obtain ⟨b, ws, rfl, eb, rw', hb⟩ := cs.lst em ry
              cases eo : okLen (xs.length + ys.length) with
              | true =>
                rw [eo, if_pos rfl] at p
                refine .inr (.inr (.inl ⟨a, b, vs, ws, rfl, rfl, ha, hb, by rw [← Paired.length rv, ← Paired.length rw']; exact okLen_line eo, fun q hq => ?_⟩))
                exact Post.made p cs hq ⟨vs ++ ws, Rls.mono (pre_snoc _ _) (Paired.app rv rw'), upd_same⟩
              | false => rw [eo, if_neg Bool.false_ne_true] at p; exact p.elim
            | _ => exact p.elim
          | tup xs =>
            cases o2 with
            | tup ys =>
              simp only at p
              obtain ⟨a, vs, oa, rfl, ea, rv, _, ha⟩ := cs.tup en rx
              obtain ⟨b, ws, ob, rfl, eb, rw', _, hb⟩ := cs.tup em ry
              cases eo : okLen (xs.length + ys.length) with
              | true =>
                rw [eo, if_pos rfl] at p
                refine .inr (.inr (.inr ⟨a, b, vs, ws, rfl, rfl, .inl (.inr ⟨oa, ha⟩), .inl (.inr ⟨ob, hb⟩), by rw [← Paired.length rv, ← Paired.length rw']; exact okLen_line eo, fun e0 => ?_, fun e0 e1 => ?_, fun e0 e1 q o ho hq => ?_⟩))
                · subst e0
                  cases rv
                  exact Post.here (rel := Rl g) p cs ⟨b, eb, rfl⟩
                · subst e1
                  cases rw'
                  cases rv with
                  | nil => exact absurd rfl e0
                  | cons _ _ => exact Post.here (rel := Rl g) p cs ⟨a, ea, rfl⟩
                · cases rv with
                  | nil => exact absurd rfl e0
                  | cons r1 r2 =>
                    cases rw' with
                    | nil => exact absurd rfl e1
                    | cons r3 r4 => exact Post.made p cs hq ⟨_, o, Rls.mono (pre_snoc _ _) (Paired.app (.cons r1 r2) (.cons r3 r4)), ho, upd_same⟩
              | false => rw [eo, if_neg Bool.false_ne_true] at p; exact p.elim
            | _ => exact p.elim
          | _ => cases o2 <;> exact p.elim
    | _ => exact p.elim
  | _ => cases y <;> exact p.elim
def fMul : F2 := fun x y h => match x, y with
  | .int i, .int j => if decide ((-(2 ^ 64) < i ∧ i < 2 ^ 64) ∨ (-(2 ^ 64) < j ∧ j < 2 ^ 64)) then .ok (.int (i * j)) h else .stuck
  | .loc n, .int k => match h[n]? with
    | some (.lst xs) => if decide (-(2 ^ 63) ≤ k ∧ k < 2 ^ 63) && okLen (xs.length * k.toNat) then newO (.lst (List.replicate k.toNat xs).flatten) h else .stuck
    | _ => .stuck
  | _, _ => .stuck
abbrev rMulAll : R2 := fun x y H Q => rI CMul (fun i j => .int (i * j)) x y H Q ∨ rRep x y H Q
theorem o_mul : OpR X (binaryOp .Mult) rMulAll := OpR.or op_mul op_rep
theorem Rls.flat {ρ : Wd} {us : List U} {vs : List V} (r : Rls g ρ us vs) : ∀ k : Nat, Rls g ρ (List.replicate k us).flatten (List.replicate k vs).flatten
  | 0 => .nil
  | k + 1 => by
    rw [List.replicate_succ, List.replicate_succ, List.flatten_cons, List.flatten_cons]; exact Paired.app r (Rls.flat r k)
theorem s_mul : S2 g fMul rMulAll := fun E ρ x y vx vy h H Q rx ry cs p => by
  cases x with
  | int i =>
    cases y with
    | int j =>
      simp only [fMul] at p
      by_cases hc : (-(2 ^ 64) < i ∧ i < 2 ^ 64) ∨ (-(2 ^ 64) < j ∧ j < 2 ^ 64)
      · rw [if_pos (decide_eq_true hc)] at p
        exact .inl ⟨i, j, rx, ry, hc, Post.here (rel := Rl g) p cs rfl⟩
      · rw [if_neg (by rw [decide_eq_true_eq]; exact hc)] at p
        exact p.elim
    | _ => exact p.elim
  | loc n =>
    cases y with
    | int k =>
      simp only [fMul] at p
      cases en : h[n]? with
      | none => rw [en] at p; exact p.elim
      | some o =>
        rw [en] at p
        cases o with
        | lst xs =>
          simp only at p
          obtain ⟨a, vs, rfl, ea, rv, ha⟩ := cs.lst en rx
          cases eo : (decide (-(2 ^ 63) ≤ k ∧ k < 2 ^ 63) && okLen (xs.length * k.toNat)) with
          | true =>
            rw [eo, if_pos rfl] at p
            rw [Bool.and_eq_true] at eo
            obtain ⟨h1, h2⟩ := of_decide_eq_true eo.1
            refine .inr ⟨a, k, vs, rfl, ry, ha, h1, h2, by rw [← Paired.length rv]; exact okLen_line eo.2, fun q hq => ?_⟩
            exact Post.made p cs hq ⟨_, Rls.mono (pre_snoc _ _) (Rls.flat rv _), upd_same⟩
          | false => rw [eo, if_neg Bool.false_ne_true] at p; exact p.elim
        | _ => exact p.elim
    | _ => exact p.elim
  | _ => cases y <;> exact p.elim

/-! ### == and !=, in and not in: data of any depth -/
def deep : Nat := 40
def fEqB (x y : U) (h : Mh) : Option Bool := match rd h deep x with
  | some d => match rd h deep y with
    | some e => if SeqAt.shaped d && SeqAt.shaped e then some (PyData.eqv d e) else none
    | none => none
  | none => none
def fEq : F2 := fun x y h => match fEqB x y h with
  | some b => .ok (.bl b) h
  | none => .stuck
def fNe : F2 := fun x y h => match fEqB x y h with
  | some b => .ok (.bl (!b)) h
  | none => .stuck
theorem fEqB_dp {K : PySem.W.Frag} (hK : K = g.K) {ρ : Wd} {h : Mh} {H : Hp} (cs : Cs g ρ h H) {x y : U} {vx vy : V} {b : Bool} (rx : Rl g ρ x vx) (ry : Rl g ρ y vy) (e : fEqB x y h = some b) :
    ∃ d e', Dp K H vx d ∧ Dp K H vy e' ∧ SeqAt.shaped d = true ∧ SeqAt.shaped e' = true ∧ PyData.eqv d e' = b := by
  subst hK
  unfold fEqB at e
  cases e1 : rd h deep x with
  | none => rw [e1] at e; cases e
  | some d =>
    cases e2 : rd h deep y with
    | none => rw [e1, e2] at e; cases e
    | some d2 =>
      rw [e1, e2] at e
      simp only at e
      cases es : (SeqAt.shaped d && SeqAt.shaped d2) with
      | true =>
        rw [es, if_pos rfl] at e
        rw [Bool.and_eq_true] at es
        exact ⟨d, d2, rd_dp cs _ _ _ _ rx e1, rd_dp cs _ _ _ _ ry e2, es.1, es.2, Option.some.inj e⟩
      | false => rw [es, if_neg Bool.false_ne_true] at e; cases e
theorem s_eq {K : PySem.W.Frag} (hK : K = g.K := by assumption) : S2 g fEq (rEqD K) := fun E ρ x y vx vy h H Q rx ry cs p => by
  unfold fEq at p
  cases e : fEqB x y h with
  | none => rw [e] at p; exact p.elim
  | some b =>
    rw [e] at p
    obtain ⟨d, d2, h1, h2, s1, s2, eb⟩ := fEqB_dp (K := K) hK cs rx ry e
    exact ⟨d, d2, h1, h2, s1, s2, by rw [eb]; exact Post.here (rel := Rl g) p cs rfl⟩
theorem s_ne {K : PySem.W.Frag} (hK : K = g.K := by assumption) : S2 g fNe (rNeD K) := fun E ρ x y vx vy h H Q rx ry cs p => by
  unfold fNe at p
  cases e : fEqB x y h with
  | none => rw [e] at p; exact p.elim
  | some b =>
    rw [e] at p
    obtain ⟨d, d2, h1, h2, s1, s2, eb⟩ := fEqB_dp (K := K) hK cs rx ry e
    exact ⟨d, d2, h1, h2, s1, s2, by rw [eb]; exact Post.here (rel := Rl g) p cs rfl⟩
def fInB (x y : U) (h : Mh) : Option Bool := match rd h deep x with
  | some d => match rd h deep y with
    | some (.list ds) => if SeqAt.shaped d && SeqAt.shaped (.list ds) then some (ds.any fun z => PyData.eqv z d) else none
    | some (.tuple ds) => if SeqAt.shaped d && SeqAt.shaped (.tuple ds) then some (ds.any fun z => PyData.eqv z d) else none
    | _ => none
  | none => none
def fIn : F2 := fun x y h => match fInB x y h with
  | some b => .ok (.bl b) h
  | none => .stuck
def fNotIn : F2 := fun x y h => match fInB x y h with
  | some b => .ok (.bl (!b)) h
  | none => .stuck
def rInT (K : PySem.W.Frag) (ng : Bool) : R2 := fun x y H Q => ∃ d ds, Dp K H x d ∧ Dp K H y (.tuple ds) ∧ SeqAt.shaped d = true ∧ SeqAt.shaped (.tuple ds) = true ∧ Q (.bl (if ng then !(ds.any fun z => PyData.eqv z d) else ds.any fun z => PyData.eqv z d)) H
theorem o_inT (hu : X.A.units + 65 < cLine) : OpR X (compareOp .In) (rInT X.K false) := by
  intro pins s σ H x y v u Q I rx ry h; obtain ⟨d, ds, hd, he, sd, se, q⟩ := h
  obtain ⟨as, r1⟩ := Dp.reads I d x v hd rx; obtain ⟨bs, r2⟩ := Dp.reads I (.tuple ds) y u he ry
  exact SeqAt.in_tuple_reads r2 r1 (SeqAt.canLay_of_shaped se) (SeqAt.canLay_of_shaped sd) (room_in_shaped sd hu) ⟨.bl _, H, I, rfl, q⟩
theorem o_notInT (hu : X.A.units + 65 < cLine) : OpR X (compareOp .NotIn) (rInT X.K true) := by
  intro pins s σ H x y v u Q I rx ry h; obtain ⟨d, ds, hd, he, sd, se, q⟩ := h
  obtain ⟨as, r1⟩ := Dp.reads I d x v hd rx; obtain ⟨bs, r2⟩ := Dp.reads I (.tuple ds) y u he ry
  exact SeqAt.notIn_tuple_reads r2 r1 (SeqAt.canLay_of_shaped se) (SeqAt.canLay_of_shaped sd) (room_in_shaped sd hu) ⟨.bl _, H, I, rfl, q⟩
abbrev rInAll (K : PySem.W.Frag) : R2 := fun x y H Q => rInD K x y H Q ∨ rInT K false x y H Q
abbrev rNotInAll (K : PySem.W.Frag) : R2 := fun x y H Q => rNotInD K x y H Q ∨ rInT K true x y H Q
theorem o_in (hu : X.A.units + 65 < cLine) : OpR X (compareOp .In) (rInAll X.K) := OpR.or (op_inD hu) (o_inT hu)
theorem o_notin (hu : X.A.units + 65 < cLine) : OpR X (compareOp .NotIn) (rNotInAll X.K) := OpR.or (op_notInD hu) (o_notInT hu)
theorem fInB_dp {K : PySem.W.Frag} (hK : K = g.K) {ρ : Wd} {h : Mh} {H : Hp} (cs : Cs g ρ h H) {x y : U} {vx vy : V} {b : Bool} (rx : Rl g ρ x vx) (ry : Rl g ρ y vy) (e : fInB x y h = some b) :
    ∃ d ds, Dp K H vx d ∧ SeqAt.shaped d = true ∧ (ds.any fun z => PyData.eqv z d) = b ∧ ((Dp K H vy (.list ds) ∧ SeqAt.shaped (.list ds) = true) ∨ (Dp K H vy (.tuple ds) ∧ SeqAt.shaped (.tuple ds) = true)) := by
  subst hK
  unfold fInB at e
  cases e1 : rd h deep x with
  | none => rw [e1] at e; cases e
  | some d =>
    cases e2 : rd h deep y with
    | none => rw [e1, e2] at e; cases e
    | some d2 =>
      rw [e1, e2] at e
      cases d2 with
      | list ds =>
        simp only at e
        cases es : (SeqAt.shaped d && SeqAt.shaped (.list ds)) with
        | true =>
          rw [es, if_pos rfl] at e
          rw [Bool.and_eq_true] at es
          exact ⟨d, ds, rd_dp cs _ _ _ _ rx e1, es.1, Option.some.inj e, .inl ⟨rd_dp cs _ _ _ _ ry e2, es.2⟩⟩
        | false => rw [es, if_neg Bool.false_ne_true] at e; cases e
      | tuple ds =>
        simp only at e
        cases es : (SeqAt.shaped d && SeqAt.shaped (.tuple ds)) with
        | true =>
          rw [es, if_pos rfl] at e
          rw [Bool.and_eq_true] at es
          exact ⟨d, ds, rd_dp cs _ _ _ _ rx e1, es.1, Option.some.inj e, .inr ⟨rd_dp cs _ _ _ _ ry e2, es.2⟩⟩
        | false => rw [es, if_neg Bool.false_ne_true] at e; cases e
      | _ => cases e
theorem s_in {K : PySem.W.Frag} (hK : K = g.K := by assumption) : S2 g fIn (rInAll K) := fun E ρ x y vx vy h H Q rx ry cs p => by
  unfold fIn at p
  cases e : fInB x y h with
  | none => rw [e] at p; exact p.elim
  | some b =>
    rw [e] at p
    obtain ⟨d, ds, h1, s1, eb, k⟩ := fInB_dp (K := K) hK cs rx ry e
    have q : Q (.bl b) H := Post.here (rel := Rl g) p cs rfl
    rcases k with ⟨h2, s2⟩ | ⟨h2, s2⟩
    · exact .inl ⟨d, ds, h1, h2, s1, s2, by rw [eb]; exact q⟩
    · exact .inr ⟨d, ds, h1, h2, s1, s2, by rw [eb]; exact q⟩
theorem s_notin {K : PySem.W.Frag} (hK : K = g.K := by assumption) : S2 g fNotIn (rNotInAll K) := fun E ρ x y vx vy h H Q rx ry cs p => by
  unfold fNotIn at p
  cases e : fInB x y h with
  | none => rw [e] at p; exact p.elim
  | some b =>
    rw [e] at p
    obtain ⟨d, ds, h1, s1, eb, k⟩ := fInB_dp (K := K) hK cs rx ry e
    have q : Q (.bl (!b)) H := Post.here (rel := Rl g) p cs rfl
    rcases k with ⟨h2, s2⟩ | ⟨h2, s2⟩
    · exact .inl ⟨d, ds, h1, h2, s1, s2, by rw [eb]; exact q⟩
    · exact .inr ⟨d, ds, h1, h2, s1, s2, by show Q (.bl (if true = true then !(ds.any fun z => PyData.eqv z d) else _)) H; rw [if_pos rfl, eb]; exact q⟩
end
end Vm

set_option Elab.async false
set_option linter.all false
set_option maxRecDepth 100000
set_option maxHeartbeats 4100000
namespace Vm
open L2 PyProof.Rows PySem PySem.Spec

theorem atI_rel {α β : Type} {F : α → β → Prop} {xs : List α} {ys : List β} {i : Int} {x : α} (r : Paired F xs ys) (e : atI xs i = some x) : ∃ y, atI ys i = some y ∧ F x y := by
  unfold atI at e ⊢
  rw [← Paired.length r]
  cases ei : ixN xs.length i with
  | none => rw [ei] at e; cases e
  | some j =>
    rw [ei] at e
    exact Paired.get r e

/-! ### subscripts -/
def fIx (g : List Int) : F2 := fun x y h => match y with
  | .int i => match x with
    | .loc n => match h[n]? with
      | some (.lst xs) => match atI xs i with
        | some u => .ok u h
        | none => .stuck
      | some (.tup xs) => match atI xs i with
        | some u => .ok u h
        | none => .stuck
      | some (.tpl xs) => match atI xs i with
        | some u => .ok u h
        | none => .stuck
      | _ => .stuck
    | .str z => if okLen z.length then (match atI z.cps.toList i with
      | some c => .ok (.str ⟨#[c]⟩) h
      | none => .stuck) else .stuck
    | .scr => match atI g i with
      | some k => .ok (.int k) h
      | none => .stuck
    | _ => .stuck
  | _ => .stuck
section
variable {X : Cx} {g : Gc}
theorem Cs.sq {ρ : Wd} {h : Mh} {H : Hp} (c : Cs g ρ h H) : SqL g.K H g.sa (g.ns.map V.int) := by
  rcases c.scr with ⟨o, e⟩ | k
  · exact .inl (.inr ⟨o, e⟩)
  · exact .inr k
theorem s_ix : S2 g (fIx g.ns) (rIx g.K) := fun E ρ x y vx vy h H Q rx ry cs p => by
  cases y with
  | int i =>
    cases x with
    | loc n =>
      simp only [fIx] at p
      cases en : h[n]? with
      | none => rw [en] at p; exact p.elim
      | some o =>
        rw [en] at p
        cases o with
        | lst xs =>
          simp only at p
          obtain ⟨a, vs, rfl, ea, rv, ha⟩ := cs.lst en rx
          cases ei : atI xs i with
          | none => rw [ei] at p; exact p.elim
          | some u =>
            rw [ei] at p
            obtain ⟨v, ev, r⟩ := atI_rel rv ei
            exact .inl ⟨a, vs, i, v, rfl, ry, SqL.of ha, ev, Post.here (rel := Rl g) p cs r⟩
        | tup xs =>
          simp only at p
          obtain ⟨a, vs, o, rfl, ea, rv, _, ha⟩ := cs.tup en rx
          cases ei : atI xs i with
          | none => rw [ei] at p; exact p.elim
          | some u =>
            rw [ei] at p
            obtain ⟨v, ev, r⟩ := atI_rel rv ei
            exact .inr (.inl ⟨a, vs, i, v, rfl, ry, .inl (.inr ⟨o, ha⟩), ev, Post.here (rel := Rl g) p cs r⟩)
        | tpl xs =>
          simp only at p
          obtain ⟨a, vs, rfl, ea, rv, ha⟩ := cs.tpl en rx
          cases ei : atI xs i with
          | none => rw [ei] at p; exact p.elim
          | some u =>
            rw [ei] at p
            obtain ⟨v, ev, r⟩ := atI_rel rv ei
            exact .inr (.inl ⟨a, vs, i, v, rfl, ry, SqT.of ha, ev, Post.here (rel := Rl g) p cs r⟩)
        | ins c fs => exact p.elim
        | exc c fs => exact p.elim
        | ded => exact p.elim
    | str z =>
      simp only [fIx] at p
      cases eo : okLen z.length with
      | true =>
        rw [eo, if_pos rfl] at p
        cases ei : atI z.cps.toList i with
        | none => rw [ei] at p; exact p.elim
        | some u =>
          rw [ei] at p
          exact .inr (.inr ⟨z, i, u, rx, ry, okLen_line eo, ei, Post.here (rel := Rl g) p cs rfl⟩)
      | false => rw [eo, if_neg Bool.false_ne_true] at p; exact p.elim
    | scr =>
      simp only [fIx] at p
      cases ei : atI g.ns i with
      | none => rw [ei] at p; exact p.elim
      | some k =>
        rw [ei] at p
        have e2 : atI (g.ns.map V.int) i = some (.int k) := by
          unfold atI at ei ⊢
          rw [List.length_map]
          cases e3 : ixN g.ns.length i with
          | none => rw [e3] at ei; cases ei
          | some j =>
            rw [e3] at ei
            show (g.ns.map V.int)[j]? = some (.int k)
            rw [List.getElem?_map, show g.ns[j]? = some k from ei]
            rfl
        exact .inl ⟨g.sa, _, i, .int k, rx, ry, cs.sq, e2, Post.here (rel := Rl g) p cs rfl⟩
    | _ => exact p.elim
  | _ => exact p.elim
theorem o_ix (hK : X.K = g.K) : IxR X (rIx g.K) := by
  rw [← hK]
  exact ix_seq

/-! ### slices -/
abbrev Mo := Sl → Mh → R (Option Int)
abbrev relO : Wd → Option Int → Option Int → Prop := fun _ a b => a = b
def oN : Mo := fun _ h => .ok none h
def oS (a : Me) : Mo := fun s h => (a s h).bind fun u h1 => match u with
  | .int i => .ok (some i) h1
  | _ => .stuck
def cutU {α : Type} (xs : List α) (lo hi : Option Int) : List α := (xs.drop (HT.sIx xs.length 0 lo)).take (HT.sIx xs.length xs.length hi - HT.sIx xs.length 0 lo)
def fSl (x : U) (lo hi : Option Int) (h : Mh) : R U := match x with
  | .loc n => match h[n]? with
    | some (.lst xs) => newO (.lst (cutU xs lo hi)) h
    | some (.tup xs) => if HT.sIx xs.length 0 lo = 0 ∧ HT.sIx xs.length xs.length hi = xs.length then .ok (.loc n) h else newO (.tup (cutU xs lo hi)) h
    | _ => .stuck
  | _ => .stuck
def mSl (a : Me) (l u : Mo) : Me := fun s h => (a s h).bind fun x h1 => (l s h1).bind fun lo h2 => (u s h2).bind fun hi h3 => fSl x lo hi h3
def TO' (g : Gc) (W : WX) (m : Mo) : TO := fun σ H Q => At g relO m (WE W σ) σ H Q
variable {W : WX} {a b c e : Expr} {A B Cc : Me} {pos p2 : Pos} {lo hi : Option Expr} {l u : Mo}
theorem PO.im {e : Option Expr} {t t' : TO} (h : PO X e t) (i : ∀ σ H Q, t' σ H Q → t σ H Q) : PO X e t' := ⟨fun pins s σ H Q I q => h.run pins s σ H Q I (i σ H Q q)⟩
theorem o_none : PO X none (TO' g W oN) := PO.im po_none fun σ H Q ⟨ρ, s, h, hs, cs, p⟩ => Post.here (rel := relO) p cs rfl
theorem o_some (h : PE X e (T g W A)) : PO X (some e) (TO' g W (oS A)) := by
  refine PO.im (po_some h) fun σ H Q q => At.seq (rel := Rl g) q fun ρ1 x s h1 v H1 hs1 c1 r1 p1 => ?_
  cases x with
  | int i => exact ⟨i, r1, Post.here (rel := relO) p1 c1 rfl⟩
  | _ => exact p1.elim
def rSlX (K : PySem.W.Frag) : V → Option Int → Option Int → Hp → VK → Prop := fun x lo hi H Q => ∃ a xs, x = .ref a ∧ SqT K H a xs ∧
  (HT.sIx xs.length 0 lo = 0 ∧ HT.sIx xs.length xs.length hi = xs.length → Q (.ref a) H) ∧ (¬ (HT.sIx xs.length 0 lo = 0 ∧ HT.sIx xs.length xs.length hi = xs.length) → ∀ p o, o.dict = none → H p = none → Q (.ref p) (upd H p (.frz o (.tup (cutV xs lo hi)))))
theorem sl_tupX : SlR X (rSlX X.K) := by
  intro pins s σ H x v vl vu lo hi sl Q I rx hs pl pu h; obtain ⟨a, xs, rfl, hx, q1, q2⟩ := h
  by_cases hw : HT.sIx xs.length 0 lo = 0 ∧ HT.sIx xs.length xs.length hi = xs.length; · exact sl_tupA pins s σ H _ v vl vu lo hi sl Q I rx hs pl pu ⟨a, xs, rfl, hx, q1, fun n => absurd hw n⟩
  · cases rx
    obtain ⟨its, r, ht, hz⟩ := I.tuple hx; have hlen : its.toArray.size = xs.length := by rw [List.size_toArray]; exact r.length.symm
    refine ⟨"tuple", _, PyProof.Rows.slot_tuple_getitem.lookup, ht.typeIs, ?_⟩; refine HT.getItem_tuple_cut ht hs pl pu (by rw [hlen]; exact hw) ?_ (by rw [hlen]; exact hz)
    rw [hlen]
    exact ⟨.ref s.heap.objs.size, _, tup_laid I ((r.drop (HT.sIx xs.length 0 lo)).take (HT.sIx xs.length xs.length hi - HT.sIx xs.length 0 lo)) (Nat.le_trans (cutV_length xs lo hi) hz), rfl, q2 hw _ _ rfl (I.hok.fresh (Nat.le_refl _))⟩
abbrev rSlAll (K : PySem.W.Frag) : V → Option Int → Option Int → Hp → VK → Prop := fun x lo hi H Q => rSlL K x lo hi H Q ∨ rSlX K x lo hi H Q
theorem sl_all : SlR X (rSlAll X.K) := SlR.or sl_list sl_tupX
theorem cut_rel {ρ : Wd} {xs : List U} {vs : List V} {lo hi : Option Int} (r : Rls g ρ xs vs) : Rls g ρ (cutU xs lo hi) (cutV vs lo hi) := by
  unfold cutU cutV
  rw [← Paired.length r]
  exact Paired.takeP _ (Paired.dropP _ r)
theorem e_slice (he : PE X a (T g W A)) (hl : PO X lo (TO' g W l)) (hu : PO X hi (TO' g W u)) : PE X (.Subscript a (.Slice lo hi none p2) pos) (T g W (mSl A l u)) := by
  refine PE.im (pe_slice sl_all he hl hu) fun σ H Q q => At.seq (rel := Rl g) q fun ρ1 x s h1 v H1 hs1 c1 r1 p1 => ?_
  refine ⟨ρ1, s, h1, hs1, c1, (Post.cut (rel := relO) p1).imp fun o1 H2 ⟨ρ2, o1', h2, e2, c2, r2, p2⟩ => ?_⟩
  cases r2
  refine ⟨ρ2, s, h2, Rsl.mono e2 hs1, c2, (Post.cut (rel := relO) p2).imp fun o2 H3 ⟨ρ3, o2', h3, e3, c3, r3, p3⟩ => ?_⟩
  cases r3
  have r1 : Rl g ρ3 x v := Rl.mono (e2.trans e3) r1
  cases x with
  | loc n =>
    simp only [fSl] at p3
    cases en : h3[n]? with
    | none => rw [en] at p3; exact p3.elim
    | some o =>
      rw [en] at p3
      cases o with
      | lst xs =>
        simp only at p3
        obtain ⟨ad, vs, rfl, ea, rv, ha⟩ := c3.lst en r1
        exact .inl ⟨ad, vs, rfl, SqL.of ha, fun p hp => Post.made p3 c3 hp ⟨_, Rls.mono (pre_snoc _ _) (cut_rel rv), upd_same⟩⟩
      | tup xs =>
        simp only at p3
        obtain ⟨ad, vs, o, rfl, ea, rv, _, ha⟩ := c3.tup en r1
        refine .inr ⟨ad, vs, rfl, .inl (.inr ⟨o, ha⟩), ?_⟩
        rw [← Paired.length rv]
        by_cases hw : HT.sIx xs.length 0 o1 = 0 ∧ HT.sIx xs.length xs.length o2 = xs.length
        · rw [if_pos hw] at p3
          exact ⟨fun _ => Post.here (rel := Rl g) p3 c3 ⟨ad, ea, rfl⟩, fun n => absurd hw n⟩
        · rw [if_neg hw] at p3
          exact ⟨fun n => absurd n hw, fun _ p o ho hp => Post.made p3 c3 hp ⟨_, o, Rls.mono (pre_snoc _ _) (cut_rel rv), ho, upd_same⟩⟩
      | _ => exact p3.elim
  | _ => exact p3.elim

/-! ### built-in functions by values -/
def fLen (ns : List Int) : List U → Mh → R U := fun us h => match us with
  | [.loc n] => match h[n]? with
    | some (.lst xs) => .ok (.int xs.length) h
    | some (.tup xs) => .ok (.int xs.length) h
    | some (.tpl xs) => .ok (.int xs.length) h
    | _ => .stuck
  | [.str z] => if okLen z.length then .ok (.int z.length) h else .stuck
  | [.scr] => .ok (.int ns.length) h
  | _ => .stuck
theorem CallR.or {f : Value} {r r' : List V → Hp → VK → Prop} (h : CallR X f r) (h' : CallR X f r') : CallR X f (fun xs H Q => r xs H Q ∨ r' xs H Q) := fun pins s σ H xs us Q I rx q => q.elim (h pins s σ H xs us Q I rx) (h' pins s σ H xs us Q I rx)
def rLen (K : PySem.W.Frag) : List V → Hp → VK → Prop := fun xs H Q => (∃ p ys, xs = [.ref p] ∧ (SqL K H p ys ∨ SqT K H p ys) ∧ Q (.int ys.length) H) ∨ (∃ z, xs = [.str z] ∧ z.length ≤ sizeLine ∧ Q (.int z.length) H)
theorem k_len (hK : X.K = g.K) : CallR X (.builtin "len") (rLen g.K) := by
  rw [← hK]
  exact CallR.or call_len_seq call_len_str
theorem one_of {ρ : Wd} {x : U} {vs : List V} (r : Rls g ρ [x] vs) : ∃ v, vs = [v] ∧ Rl g ρ x v := by
  cases r with
  | cons r1 r2 =>
    cases r2
    exact ⟨_, rfl, r1⟩
theorem two_of {ρ : Wd} {x y : U} {vs : List V} (r : Rls g ρ [x, y] vs) : ∃ v w, vs = [v, w] ∧ Rl g ρ x v ∧ Rl g ρ y w := by
  cases r with
  | cons r1 r2 =>
    obtain ⟨w, rfl, r3⟩ := one_of r2
    exact ⟨_, w, rfl, r1, r3⟩
theorem s_len : SL g (fLen g.ns) (rLen g.K) := fun E ρ xs vs h H Q r cs p => by
  unfold fLen at p
  split at p
  · rename_i n
    obtain ⟨v, rfl, r1⟩ := one_of r
    split at p
    · rename_i xs en
      obtain ⟨a, vs, rfl, ea, rv, ha⟩ := cs.lst en r1
      exact .inl ⟨a, vs, rfl, .inl (SqL.of ha), by rw [← Paired.length rv]; exact Post.here (rel := Rl g) p cs rfl⟩
    · rename_i xs en
      obtain ⟨a, vs, o, rfl, ea, rv, _, ha⟩ := cs.tup en r1
      exact .inl ⟨a, vs, rfl, .inr (.inl (.inr ⟨o, ha⟩)), by rw [← Paired.length rv]; exact Post.here (rel := Rl g) p cs rfl⟩
    · rename_i xs en
      obtain ⟨a, vs, rfl, ea, rv, ha⟩ := cs.tpl en r1
      exact .inl ⟨a, vs, rfl, .inr (SqT.of ha), by rw [← Paired.length rv]; exact Post.here (rel := Rl g) p cs rfl⟩
    · exact p.elim
  · rename_i z
    obtain ⟨v, rfl, r1⟩ := one_of r
    cases eo : okLen z.length with
    | true =>
      rw [eo, if_pos rfl] at p
      exact .inr ⟨z, by rw [r1], okLen_line eo, Post.here (rel := Rl g) p cs rfl⟩
    | false => rw [eo, if_neg Bool.false_ne_true] at p; exact p.elim
  · obtain ⟨v, rfl, r1⟩ := one_of r
    exact .inl ⟨g.sa, g.ns.map V.int, by rw [r1], .inl cs.sq, by rw [List.length_map]; exact Post.here (rel := Rl g) p cs rfl⟩
  · exact p.elim
def fAbs : List U → Mh → R U := fun us h => match us with
  | [.int i] => .ok (.int (if i < 0 then -i else i)) h
  | _ => .stuck
theorem s_abs : SL g fAbs (fun xs H Q => ∃ i, xs = [.int i] ∧ Q (.int (if i < 0 then -i else i)) H) := fun E ρ xs vs h H Q r cs p => by
  unfold fAbs at p
  split at p
  · obtain ⟨v, rfl, r1⟩ := one_of r
    exact ⟨_, by rw [r1], Post.here (rel := Rl g) p cs rfl⟩
  · exact p.elim
def fMax2 : List U → Mh → R U := fun us h => match us with
  | [.int i, .int j] => .ok (.int (if j > i then j else i)) h
  | _ => .stuck
theorem s_max2 : SL g fMax2 (fun xs H Q => ∃ i j, xs = [.int i, .int j] ∧ Q (.int (if j > i then j else i)) H) := fun E ρ xs vs h H Q r cs p => by
  unfold fMax2 at p
  split at p
  · obtain ⟨v, w, rfl, r1, r2⟩ := two_of r
    exact ⟨_, _, by rw [r1, r2], Post.here (rel := Rl g) p cs rfl⟩
  · exact p.elim
def fMin2 : List U → Mh → R U := fun us h => match us with
  | [.int i, .int j] => .ok (.int (if j < i then j else i)) h
  | _ => .stuck
theorem s_min2 : SL g fMin2 (fun xs H Q => ∃ i j, xs = [.int i, .int j] ∧ Q (.int (if j < i then j else i)) H) := fun E ρ xs vs h H Q r cs p => by
  unfold fMin2 at p
  split at p
  · obtain ⟨v, w, rfl, r1, r2⟩ := two_of r
    exact ⟨_, _, by rw [r1, r2], Post.here (rel := Rl g) p cs rfl⟩
  · exact p.elim
def fInt : List U → Mh → R U := fun us h => match us with
  | [.int i] => .ok (.int i) h
  | [.bl k] => .ok (.int (if k then 1 else 0)) h
  | _ => .stuck
theorem s_int : SL g fInt (fun xs H Q => (∃ i, xs = [.int i] ∧ Q (.int i) H) ∨ ∃ k, xs = [.bl k] ∧ Q (.int (if k then 1 else 0)) H) := fun E ρ xs vs h H Q r cs p => by
  unfold fInt at p
  split at p
  · obtain ⟨v, rfl, r1⟩ := one_of r
    exact .inl ⟨_, by rw [r1], Post.here (rel := Rl g) p cs rfl⟩
  · obtain ⟨v, rfl, r1⟩ := one_of r
    exact .inr ⟨_, by rw [r1], Post.here (rel := Rl g) p cs rfl⟩
  · exact p.elim
/-- the bools of a list -/
def blsOf : List U → Option (List Bool)
  | [] => some []
  | .bl b :: r => match blsOf r with
    | some bs => some (b :: bs)
    | none => none
  | _ => none
theorem bls_rel {ρ : Wd} : ∀ {xs : List U} {vs : List V} {bs : List Bool}, Rls g ρ xs vs → blsOf xs = some bs → vs = bs.map V.bl
  | [], _, _, .nil, e => by
    unfold blsOf at e
    cases e
    rfl
  | x :: xs, _, bs, .cons r rs, e => by
    cases x with
    | bl b =>
      unfold blsOf at e
      cases e1 : blsOf xs with
      | none => rw [e1] at e; cases e
      | some bt =>
        rw [e1] at e
        cases e
        rw [bls_rel rs e1, r]
        rfl
    | _ => unfold blsOf at e; cases e
def fAll : List U → Mh → R U := fun us h => match us with
  | [.loc n] => match h[n]? with
    | some (.lst xs) => match blsOf xs with
      | some bs => .ok (.bl (bs.all id)) h
      | none => .stuck
    | _ => .stuck
  | _ => .stuck
def fAny : List U → Mh → R U := fun us h => match us with
  | [.loc n] => match h[n]? with
    | some (.lst xs) => match blsOf xs with
      | some bs => .ok (.bl (bs.any id)) h
      | none => .stuck
    | _ => .stuck
  | _ => .stuck
theorem s_all {K : PySem.W.Frag} : SL g fAll (rAll K) := fun E ρ xs vs h H Q r cs p => by
  unfold fAll at p
  split at p
  · obtain ⟨v, rfl, r1⟩ := one_of r
    split at p
    · rename_i xs en
      obtain ⟨a, vs, rfl, ea, rv, ha⟩ := cs.lst en r1
      split at p
      · rename_i bs eb
        have := bls_rel rv eb
        subst this
        exact ⟨a, bs, rfl, SqL.of ha, Post.here (rel := Rl g) p cs rfl⟩
      · exact p.elim
    · exact p.elim
  · exact p.elim
theorem s_any {K : PySem.W.Frag} : SL g fAny (rAny K) := fun E ρ xs vs h H Q r cs p => by
  unfold fAny at p
  split at p
  · obtain ⟨v, rfl, r1⟩ := one_of r
    split at p
    · rename_i xs en
      obtain ⟨a, vs, rfl, ea, rv, ha⟩ := cs.lst en r1
      split at p
      · rename_i bs eb
        have := bls_rel rv eb
        subst this
        exact ⟨a, bs, rfl, SqL.of ha, Post.here (rel := Rl g) p cs rfl⟩
      · exact p.elim
    · exact p.elim
  · exact p.elim
/-- tuple(x), list(x) of a list or a tuple -/
def fTup : List U → Mh → R U := fun us h => match us with
  | [.loc n] => match h[n]? with
    | some (.lst xs) => newO (.tup xs) h
    | some (.tup _) => .ok (.loc n) h
    | _ => .stuck
  | _ => .stuck
def fLst : List U → Mh → R U := fun us h => match us with
  | [.loc n] => match h[n]? with
    | some (.lst xs) => newO (.lst xs) h
    | some (.tup xs) => newO (.lst xs) h
    | _ => .stuck
  | _ => .stuck
def rTupX (K : PySem.W.Frag) : List V → Hp → VK → Prop := fun xs H Q => ∃ p ys, xs = [.ref p] ∧ ((SqL K H p ys ∧ ∀ l o, o.dict = none → H l = none → Q (.ref l) (upd H l (.frz o (.tup ys)))) ∨ (SqT K H p ys ∧ Q (.ref p) H))
theorem call_tupX : CallR X (.type "tuple") (rTupX X.K) := by
  intro pins s σ H xs us Q I r h; obtain ⟨p, ys, rfl, h⟩ := h
  obtain ⟨u, rfl, rx⟩ := vals1 r; cases rx; rcases h with ⟨hq, q⟩ | ⟨hq, q⟩
  · obtain ⟨its, r', pl, hz⟩ := I.list hq; have hlen := r'.length
    refine call_tuple_list pl.isList (fun h' kp => ?_) (by simp only [List.size_toArray] <;> omega); have I1 : Inv X pins σ H { s with heap := h' } := I.kept (t' := s.toks) kp
    exact ⟨.ref h'.objs.size, _, tup_laid I1 r' hz, rfl, q _ _ rfl (I1.hok.fresh (Nat.le_refl _))⟩
  · obtain ⟨its, r', pl, hz⟩ := I.tuple hq; exact call_tuple_same pl ⟨.ref p, H, I, rfl, q⟩
theorem s_tup {K : PySem.W.Frag} : SL g fTup (rTupX K) := fun E ρ xs vs h H Q r cs p => by
  unfold fTup at p
  split at p
  · obtain ⟨v, rfl, r1⟩ := one_of r
    split at p
    · rename_i xs en
      obtain ⟨a, vs, rfl, ea, rv, ha⟩ := cs.lst en r1
      exact ⟨a, vs, rfl, .inl ⟨SqL.of ha, fun l o ho hl => Post.made p cs hl ⟨vs, o, Rls.mono (pre_snoc _ _) rv, ho, upd_same⟩⟩⟩
    · rename_i xs en
      obtain ⟨a, vs, o, rfl, ea, rv, _, ha⟩ := cs.tup en r1
      exact ⟨a, vs, rfl, .inr ⟨.inl (.inr ⟨o, ha⟩), Post.here (rel := Rl g) p cs ⟨a, ea, rfl⟩⟩⟩
    · exact p.elim
  · exact p.elim
def rLst (K : PySem.W.Frag) : List V → Hp → VK → Prop := fun xs H Q => ∃ p ys, xs = [.ref p] ∧ (SqL K H p ys ∨ SqT K H p ys) ∧ ∀ l, H l = none → Q (.ref l) (upd H l (.lst ys))
theorem k_lst : CallR X (.type "list") (rLst X.K) := call_list_of
theorem s_lst {K : PySem.W.Frag} : SL g fLst (rLst K) := fun E ρ xs vs h H Q r cs p => by
  unfold fLst at p
  split at p
  · obtain ⟨v, rfl, r1⟩ := one_of r
    split at p
    · rename_i xs en
      obtain ⟨a, vs, rfl, ea, rv, ha⟩ := cs.lst en r1
      exact ⟨a, vs, rfl, .inl (SqL.of ha), fun l hl => Post.made p cs hl ⟨vs, Rls.mono (pre_snoc _ _) rv, upd_same⟩⟩
    · rename_i xs en
      obtain ⟨a, vs, o, rfl, ea, rv, _, ha⟩ := cs.tup en r1
      exact ⟨a, vs, rfl, .inr (.inl (.inr ⟨o, ha⟩)), fun l hl => Post.made p cs hl ⟨vs, Rls.mono (pre_snoc _ _) rv, upd_same⟩⟩
    · exact p.elim
  · exact p.elim

/-! ### isinstance of a built-in class -/
def tyU (h : Mh) : U → Option String
  | .non => some "NoneType"
  | .bl _ => some "bool"
  | .int _ => some "int"
  | .str _ => some "str"
  | .loc n => match h[n]? with
    | some (.lst _) => some "list" | some (.tup _) => some "tuple"
    | some (.tpl _) => some "tuple"
    | _ => none
  | .scr => none
  | .exn => none
  | .dat (.list _) => some "list"
  | .dat (.tuple _) => some "tuple"
  | .dat _ => none
  | .obj _ _ => none
  | .pr _ => none
def fIsi (T : String) (u : U) (h : Mh) : R U := match tyU h u with
  | some t => match kitB t T with
    | some b => .ok (.bl b) h
    | none => .stuck
  | none => .stuck
theorem tyU_ok {ρ : Wd} {h : Mh} {H : Hp} (cs : Cs g ρ h H) {u : U} {v : V} {t : String} (r : Rl g ρ u v) (e : tyU h u = some t) : TyX g.K H v (.type t) := by
  cases u with
  | obj c fs => cases e
  | pr ds => cases e
  | dat d =>
    cases d with
    | list ds =>
      cases e
      cases r.2 with
      | lst hs _ =>
        exact .base (.lst (cs.fzH _ _ hs))
    | tuple ds =>
      cases e
      cases r.2 with
      | tup hs _ =>
        rcases hs with ⟨o, hs, _⟩ | ⟨o, its, n, hk, hc, _⟩
        · exact .fTuple (cs.fzH _ _ hs)
        · exact .kTuple hk hc
    | _ => cases e
  | non => cases e; cases r; exact .base .non
  | bl b => cases e; cases r; exact .base (.bl b)
  | int b => cases e; cases r; exact .base (.int b)
  | str b => cases e; cases r; exact .base (.str b)
  | scr => cases e
  | exn => cases e
  | loc n =>
    simp only [tyU] at e
    split at e
    · rename_i xs en
      cases e
      obtain ⟨a, vs, rfl, ea, rv, ha⟩ := cs.lst en r
      exact .base (.lst ha)
    · rename_i xs en
      cases e
      obtain ⟨a, vs, o, rfl, ea, rv, _, ha⟩ := cs.tup en r
      exact .fTuple ha
    · rename_i xs en
      cases e
      obtain ⟨a, vs, rfl, ea, rv, ha⟩ := cs.tpl en r
      exact .base (.tup ha)
    · cases e
/-- isinstance(e, T) -/
theorem e_isi {T : String} {p pc : Pos} {x : Str} (hK : X.K = g.K := by assumption) (hg : Gl X "isinstance") (hm : X.mg "isinstance" = none) (hgT : Gl X x) (hmT : X.mg x = none) (hv : bootBuiltins x = some (.type T)) (he : PE X e (Vm.T g W A))
    (hn : x ≠ "__name__" := by decide) (hdb : (x == ("__debug__" : Str)) = false := by decide)
    (hst : starEach [e, .Name x pc] X.env = (false, eval e X.env) :: starEach [.Name x pc] X.env := by rfl) (hst2 : starEach [Expr.Name x pc] X.env = (false, eval (.Name x pc) X.env) :: starEach [] X.env := by rfl)
    (hpl : (backTo pos (starEach [Expr.Name x pc] X.env)).any (·.1) = false := by rfl) :
    PE X (.Call (.Name "isinstance" p) [e, .Name x pc] [] pos) (Vm.T g W (m1 (fIsi T) A)) := by
  have hc : PE X (.Name x pc) (tC (.ty T)) := pe_bltn hgT hmT hv rfl hn hdb
  refine PE.im (pe_callB call_isi hg hm (by decide +kernel) (pa_cons he (pa_cons hc pa_nil hst2) hst) (by decide) (by decide) hst hpl) fun σ H Q q => ?_
  refine At.seq (rel := Rl g) q fun ρ1 u s h1 v H1 hs1 c1 r1 p1 => ?_
  unfold fIsi at p1
  cases e1 : tyU h1 u with
  | none => rw [e1] at p1; exact p1.elim
  | some t =>
    rw [e1] at p1
    simp only at p1
    cases e2 : kitB t T with
    | none => rw [e2] at p1; exact p1.elim
    | some k =>
      rw [e2] at p1
      exact ⟨v, .ty T, .type t, .type T, k, rfl, .ty T, by rw [hK]; exact tyU_ok c1 r1 e1, kit_ty e2, Post.here (rel := Rl g) p1 c1 rfl⟩
end
end Vm

set_option Elab.async false
set_option linter.all false
set_option maxRecDepth 100000
set_option maxHeartbeats 4100000
namespace Vm
open L2 PyProof.Rows PySem PySem.Spec
/-! ### methods of built-in types -/
abbrev Fm := U → List U → Mh → R U
def mMt (f : Fm) (o : Me) (a : Ml) : Me := fun s h => (o s h).bind fun x h1 => (a s h1).bind fun xs h2 => f x xs h2
def SMt (g : Gc) (K : PySem.W.Frag) (T : String) (f : Fm) (r : V → List V → Hp → VK → Prop) : Prop :=
  ∀ E ρ x xs vx vs h H Q, Rl g ρ x vx → Rls g ρ xs vs → Cs g ρ h H → Post g (Rl g) ρ (f x xs h) Q E → r vx vs H Q
/-- the receiver's kind, ahead of the arguments -/
def isLst (u : U) (h : Mh) : Bool := match u with
  | .loc n => match h[n]? with
    | some (.lst _) => true
    | _ => false
  | _ => false
def mMtL (f : Fm) (o : Me) (a : Ml) : Me := fun s h => (o s h).bind fun x h1 => if isLst x h1 then ((a s h1).bind fun xs h2 => f x xs h2) else .stuck
section
variable {X : Cx} {g : Gc} {W : WX} {A : Me} {L : Ml} {o e : Expr} {es : List Expr} {name : Str} {apos cpos : Pos} {id : String} {f : Fm} {r : V → List V → Hp → VK → Prop}
theorem e_mtL (slot : Slot "list" name id) (hty : typeOf (.builtin id) = pure (.type "method_descriptor")) (hm : MtR X id r) (hs : SMt g X.K "list" f r) (ho : PE X o (T g W A)) (ha : PA X (e :: es) (TL g W L)) (hbase : attributeBase o name X.env (eval o X.env) = eval o X.env := by rfl) (hfew : ((backTo cpos (starEach (e :: es) X.env)).all (fun x => !x.1) && (backToKw cpos (keywordEach [] X.env)).all (fun x => x.1.isSome) && decide ((e :: es).length + ([] : List Keyword).length + (if ([] : List Keyword).isEmpty then 0 else 1) < 30)) = true := by rfl)
    (hline : (apos.endLine == cpos.line) = true := by rfl) (hss : starEach (e :: es) X.env = (false, eval e X.env) :: starEach es X.env := by rfl) (hplain : (backTo cpos (starEach es X.env)).any (·.1) = false := by rfl) :
    PE X (.Call (.Attribute o name apos) (e :: es) [] cpos) (T g W (mMtL f A L)) := by
  refine PE.im (pe_bm PySem.F.plainAttrs_list slot hty hm ho ha hbase hfew hline hss hplain) fun σ H Q q => At.seq (rel := Rl g) q fun ρ1 x s h1 v H1 hs1 c1 r1 p1 => ?_
  cases el : isLst x h1 with
  | false => rw [el, if_neg Bool.false_ne_true] at p1; exact p1.elim
  | true =>
    rw [el, if_pos rfl] at p1
    unfold isLst at el
    split at el
    · rename_i n
      split at el
      · rename_i xs en
        obtain ⟨a, vs, rfl, ea, rv, ha⟩ := c1.lst en r1
        refine ⟨.inl ⟨rfl, vs, SqL.of ha⟩, ρ1, s, h1, hs1, c1, (Post.cut (rel := Rls g) p1).imp fun ws H2 ⟨ρ2, us, h2, e2, c2, r2, p2⟩ => ?_⟩
        exact hs _ ρ2 (.loc n) us _ ws h2 H2 Q (Rl.mono e2 r1) r2 c2 p2
      · cases el
    · cases el
def fAppend : Fm := fun x us h => match x, us with
  | .loc n, [u] => match h[n]? with
    | some (.lst xs) => if okLen xs.length then .ok .non (h.set n (.lst (xs ++ [u]))) else .stuck
    | _ => .stuck
  | _, _ => .stuck
theorem s_append {K : PySem.W.Frag} : SMt g K "list" fAppend rAppend := fun E ρ x xs vx vs h H Q rx rs cs p => by
  unfold fAppend at p
  split at p
  · rename_i n u
    obtain ⟨v, rfl, r1⟩ := one_of rs
    split at p
    · rename_i xs en
      obtain ⟨a, vs, rfl, ea, rv, ha⟩ := cs.lst en rx
      cases eo : okLen xs.length with
      | true =>
        rw [eo, if_pos rfl] at p
        refine ⟨a, vs, v, rfl, rfl, ha, ?_, ?_⟩
        · rw [← Paired.length rv]
          have := of_decide_eq_true eo
          rw [sizeLine_eq]
          omega
        · exact Post.here (rel := Rl g) p (cs.put (o := .lst (xs ++ [u])) ea (nfL ha) ⟨vs ++ [v], Paired.app rv (.cons r1 .nil), upd_same⟩ (cs.live en ea)) rfl
      | false => rw [eo, if_neg Bool.false_ne_true] at p; exact p.elim
    · exact p.elim
  · exact p.elim
theorem mtR_append : MtR X "list.append" rAppend := mt_append
theorem e_append (ho : PE X o (T g W A)) (ha : PA X (e :: es) (TL g W L))
    (hbase : attributeBase o "append" X.env (eval o X.env) = eval o X.env := by rfl) (hfew : ((backTo cpos (starEach (e :: es) X.env)).all (fun x => !x.1) && (backToKw cpos (keywordEach [] X.env)).all (fun x => x.1.isSome) && decide ((e :: es).length + ([] : List Keyword).length + (if ([] : List Keyword).isEmpty then 0 else 1) < 30)) = true := by rfl)
    (hline : (apos.endLine == cpos.line) = true := by rfl) (hss : starEach (e :: es) X.env = (false, eval e X.env) :: starEach es X.env := by rfl) (hplain : (backTo cpos (starEach es X.env)).any (·.1) = false := by rfl) :
    PE X (.Call (.Attribute o "append" apos) (e :: es) [] cpos) (T g W (mMtL fAppend A L)) := e_mtL PySem.F.slot_list_append PySem.F.type_list_append mtR_append s_append ho ha hbase hfew hline hss hplain
/-- the first place of an equal one -/
def firstAt (d : PyData) : List PyData → Nat → Option Nat
  | [], _ => none
  | z :: zs, j => if PyData.eqv z d then some j else firstAt d zs (j + 1)
theorem firstAt_ok {d : PyData} : ∀ {zs : List PyData} {k j : Nat}, firstAt d zs k = some j → k ≤ j ∧ ∃ z, zs[j - k]? = some z ∧ PyData.eqv z d = true ∧ ∀ (m : Nat) (z' : PyData), m < j - k → zs[m]? = some z' → PyData.eqv z' d = false
  | [], _, _, e => by unfold firstAt at e; cases e
  | z :: zs, k, j, e => by
    unfold firstAt at e
    cases ez : PyData.eqv z d with
    | true =>
      rw [ez, if_pos rfl] at e
      cases e
      refine ⟨Nat.le_refl _, z, by rw [Nat.sub_self]; rfl, ez, fun m z' hm => by rw [Nat.sub_self] at hm; cases hm⟩
    | false =>
      rw [ez, if_neg Bool.false_ne_true] at e
      obtain ⟨h1, z2, h2, h3, h4⟩ := firstAt_ok e
      have e1 : j - k = (j - (k + 1)) + 1 := by omega
      refine ⟨by omega, z2, by rw [e1]; exact h2, h3, fun m z' hm hz => ?_⟩
      cases m with
      | zero =>
        have : z = z' := Option.some.inj hz
        rw [← this]
        exact ez
      | succ m => exact h4 m z' (by omega) hz
def fIndex : Fm := fun x us h => match us with
  | [u] => match rd h deep u with
    | some d => match rd h deep x with
      | some (.list ds) => if SeqAt.shaped (.list ds) && SeqAt.shaped d then (match firstAt d ds 0 with
        | some j => .ok (.int (j : Nat)) h
        | none => .stuck) else .stuck
      | _ => .stuck
    | none => .stuck
  | _ => .stuck
theorem s_index {K : PySem.W.Frag} (hK : K = g.K := by assumption) : SMt g K "list" fIndex (rIndexD K) := fun E ρ x xs vx vs h H Q rx rs cs p => by
  subst hK
  unfold fIndex at p
  split at p
  · rename_i u
    obtain ⟨v, rfl, r1⟩ := one_of rs
    split at p
    · rename_i d ed
      split at p
      · rename_i ds el
        split at p
        · rename_i es
          rw [Bool.and_eq_true] at es
          split at p
          · rename_i j ej
            obtain ⟨_, z, hz, hzd, hno⟩ := firstAt_ok ej
            have dl := rd_dp cs _ _ _ _ rx el
            cases dl with
            | lst hs ha => exact ⟨_, v, d, ds, j, z, rfl, rfl, .lst hs ha, rd_dp cs _ _ _ _ r1 ed, es.1, es.2, hz, hzd, hno, Post.here (rel := Rl g) p cs rfl⟩
          · exact p.elim
        · exact p.elim
      · exact p.elim
    · exact p.elim
  · exact p.elim
theorem e_index (hK : X.K = g.K := by assumption) (hu : X.A.units + 65 < cLine) (ho : PE X o (T g W A)) (ha : PA X (e :: es) (TL g W L))
    (hbase : attributeBase o "index" X.env (eval o X.env) = eval o X.env := by rfl) (hfew : ((backTo cpos (starEach (e :: es) X.env)).all (fun x => !x.1) && (backToKw cpos (keywordEach [] X.env)).all (fun x => x.1.isSome) && decide ((e :: es).length + ([] : List Keyword).length + (if ([] : List Keyword).isEmpty then 0 else 1) < 30)) = true := by rfl)
    (hline : (apos.endLine == cpos.line) = true := by rfl) (hss : starEach (e :: es) X.env = (false, eval e X.env) :: starEach es X.env := by rfl) (hplain : (backTo cpos (starEach es X.env)).any (·.1) = false := by rfl) :
    PE X (.Call (.Attribute o "index" apos) (e :: es) [] cpos) (T g W (mMtL fIndex A L)) := e_mtL PySem.F.slot_list_index PySem.F.type_list_index (mt_indexD hu) s_index ho ha hbase hfew hline hss hplain

/-! ### is None -/
def fIsN : F2 := fun x y h => match y with
  | .non => match x with
    | .non => .ok (.bl true) h
    | _ => .ok (.bl false) h
  | _ => .stuck
def fNotN : F2 := fun x y h => match y with
  | .non => match x with
    | .non => .ok (.bl false) h
    | _ => .ok (.bl true) h
  | _ => .stuck
theorem non_iff {ρ : Wd} {x : U} {v : V} (r : Rl g ρ x v) : decide (v = .non) = (match x with | .non => true | _ => false) := by
  cases x with
  | non => cases r; rfl
  | bl b => cases r; rfl
  | int b => cases r; rfl
  | str b => cases r; rfl
  | loc n => obtain ⟨a, _, rfl⟩ := r; rfl
  | scr => cases r; rfl
  | exn => obtain ⟨a, _, _, _, rfl⟩ := r; rfl
  | dat d =>
    obtain ⟨r1, r2⟩ := r
    cases d with
    | list ds => cases r2; rfl
    | tuple ds => cases r2; rfl
    | _ => cases r1
  | obj c fs => cases r <;> rfl
  | pr ds => obtain ⟨a, vs, rfl, _⟩ := r; rfl
theorem s_isN : S2 g fIsN (fun x y H Q => y = .non ∧ Q (.bl (decide (x = .non))) H) := fun E ρ x y vx vy h H Q rx ry cs p => by
  cases y with
  | non =>
    refine ⟨ry, ?_⟩
    rw [non_iff rx]
    cases x <;> exact Post.here (rel := Rl g) p cs rfl
  | _ => exact p.elim
theorem s_notN : S2 g fNotN (fun x y H Q => y = .non ∧ Q (.bl (!decide (x = .non))) H) := fun E ρ x y vx vy h H Q rx ry cs p => by
  cases y with
  | non =>
    refine ⟨ry, ?_⟩
    rw [non_iff rx]
    cases x <;> exact Post.here (rel := Rl g) p cs rfl
  | _ => exact p.elim
end
end Vm

set_option Elab.async false
set_option linter.all false
set_option maxRecDepth 100000
set_option maxHeartbeats 4100000
namespace Vm
open L2 PyProof.Rows PySem PySem.Spec
/-! ### chains, minus, pairs stored, items stored, zip, enumerate -/
def mChain (f f' : F2) (a b c : Me) : Me := fun s h => (a s h).bind fun x h1 => (b s h1).bind fun y h2 => (f x y h2).bind fun z h3 => match z with
  | .bl true => (c s h3).bind fun w h4 => f' y w h4
  | .bl false => .ok (.bl false) h3
  | _ => .stuck
/-- an operation that changes nothing -/
def Pure2 (f : F2) : Prop := ∀ x y h z h', f x y h = .ok z h' → h' = h
section
variable {X : Cx} {g : Gc} {W : WX} {a b c e : Expr} {A B Cc : Me} {pos : Pos}
/-- by values, with what is left -/
def S2k (g : Gc) (f : F2) (r : R2) : Prop := ∀ (E : XK) ρ x y vx vy h H (Q : VK), Rl g ρ x vx → Rl g ρ y vy → Cs g ρ h H → Post g (Rl g) ρ (f x y h) Q E → r vx vy H Q
theorem chain_read {f f' : F2} {r r' : R2} (hs : S2 g f r) (hs' : S2 g f' r') {σ : L2.St} {H : Hp} {Q : VK} (q : At g (Rl g) (mChain f f' A B Cc) (WE W σ) σ H Q) : tChain r r' (T g W A) (T g W B) (T g W Cc) σ H Q := by
  refine At.seq (rel := Rl g) q fun ρ1 x s h1 v H1 hs1 c1 r1 p1 => ?_
  refine ⟨ρ1, s, h1, hs1, c1, (Post.cut (rel := Rl g) p1).imp fun w H2 ⟨ρ2, y, h2, e2, c2, r2, p2⟩ => ?_⟩
  refine hs _ ρ2 x y v w h2 H2 _ (Rl.mono e2 r1) r2 c2 ((Post.cut (rel := Rl g) p2).imp fun z H3 ⟨ρ3, k, h3, e3, c3, r3, p3⟩ => ?_)
  cases k with
  | bl k =>
    cases k with
    | true =>
      refine ⟨true, r3, ?_⟩
      rw [if_pos rfl]
      refine ⟨ρ3, s, h3, Rsl.mono (e2.trans e3) hs1, c3, (Post.cut (rel := Rl g) p3).imp fun t H4 ⟨ρ4, u, h4, e4, c4, r4, p4⟩ => ?_⟩
      exact hs' _ ρ4 y u w t h4 H4 Q (Rl.mono (e3.trans e4) r2) r4 c4 p4
    | false =>
      refine ⟨false, r3, ?_⟩
      rw [if_neg Bool.false_ne_true]; exact Post.here (rel := Rl g) p3 c3 rfl
  | _ => exact p3.elim
theorem e_chain {op op' : CmpOp} {f f' : F2} {r r' : R2} (ho : OpR X (compareOp op) r) (hs : S2 g f r) (ho' : OpR X (compareOp op') r') (hs' : S2 g f' r') (ha : PE X a (T g W A)) (hb : PE X b (T g W B)) (hc : PE X c (T g W Cc))
    (hm : lastMarks [op, op'] [b, c] = false := by with_unfolding_all rfl) : PE X (.Compare a [op, op'] [b, c] pos) (T g W (mChain f f' A B Cc)) :=
  PE.im (pe_chain ho ho' ha hb hc hm) fun _ _ _ q => chain_read hs hs' q
theorem t_chain {op op' : CmpOp} {f f' : F2} {r r' : R2} (ho : OpR X (compareOp op) r) (hs : S2 g f r) (ho' : OpR X (compareOp op') r') (hs' : S2 g f' r') (ha : PE X a (T g W A)) (hb : PE X b (T g W B)) (hc : PE X c (T g W Cc))
    (hm : lastMarks [op, op'] [b, c] = false := by with_unfolding_all rfl) : PT X (.Compare a [op, op'] [b, c] pos) (TB g W (bV (mChain f f' A B Cc))) := by
  refine PT.im (pt_chain ho ho' ha hb hc hm) fun σ H Q q => chain_read hs hs' ?_
  refine At.seq (rel := Rl g) (m := mChain f f' A B Cc) (k := fun x _ h1 => asB x h1) q fun ρ1 x s h1 v H1 hs1 c1 r1 p1 => ?_
  cases x with
  | bl k => exact ⟨k, r1, Post.here (rel := relB) p1 c1 rfl⟩
  | _ => exact p1.elim
/-- -i -/
def fNeg : U → Mh → R U := fun x h => match x with
  | .int i => .ok (.int (-i)) h
  | _ => .stuck
theorem s_neg : S1 g fNeg (rU fun i => .int (-i)) := fun E ρ x vx h H Q r cs p => by
  cases x with
  | int i => exact ⟨i, r, Post.here (rel := Rl g) p cs rfl⟩
  | _ => exact p.elim
/-- strings in order -/
def fLeS : F2 := fun x y h => match x, y with
  | .str i, .str j => .ok (.bl (!decide (j.cps.toList < i.cps.toList))) h
  | _, _ => .stuck
theorem s_leS : S2 g fLeS (fun x y H Q => ∃ i j, x = .str i ∧ y = .str j ∧ Q (.bl (!decide (j.cps.toList < i.cps.toList))) H) := fun E ρ x y vx vy h H Q rx ry cs p => by
  cases x with
  | str i =>
    cases y with
    | str j => exact ⟨i, j, rx, ry, Post.here (rel := Rl g) p cs rfl⟩
    | _ => exact p.elim
  | _ => cases y <;> exact p.elim
/-- a, b = x, y -/
def sPar (i j : Nat) (L : Ml) : Ms := fun s h => (L s h).bindS s fun us h1 => match us with
  | [u, w] => .nx ((s.set i (some u)).set j (some w)) h1
  | _ => .stuck
theorem s_par {i j : Nat} {x y : Str} {L : Ml} {px py pt : Pos} {kt k2 pt2} (hc : X.calm = true) (hN : X.N.Nodup) (ha : PA X [a, b] (TL g W L)) (hi : X.N[i]? = some x := by rfl) (hj : X.N[j]? = some y := by rfl) (hij : i ≠ j := by decide)
    (hx : X.env.scope.names.lookup x = some .local := by rfl) (hy : X.env.scope.names.lookup y = some .local := by rfl)
    (hw : swappedStores [.Tuple [.Name x px, .Name y py] kt pt] (.Tuple [a, b] k2 pt2) X.env = pure (some [x, y]) := by rfl) (hs : swapsWithSole [.Tuple [.Name x px, .Name y py] kt pt] (.Tuple [a, b] k2 pt2) pos.line X.env = pure false := by rfl) :
    PS X (.Assign [.Tuple [.Name x px, .Name y py] kt pt] (.Tuple [a, b] k2 pt2) pos) (TSm g W (sPar i j L)) := by
  refine PS.im (ps_par hc hN hi hj hij hx hy ha hw hs) fun D σ H q => AtS.seqE (rel := Rls g) (k := fun us s h1 => match us with | [u, w] => .nx ((s.set i (some u)).set j (some w)) h1 | _ => .stuck) q fun ρ1 us s h1 vs H1 hs c1 r1 p => ?_
  split at p
  · rename_i u w
    obtain ⟨v, v2, rfl, q1, q2⟩ := two_of r1
    exact ⟨v, v2, rfl, p ρ1 _ H1 (Wd.refl _) c1 (Paired.set (F := Rol g ρ1) (x := some w) (y := some v2) q2 j (Paired.set (F := Rol g ρ1) (x := some u) (y := some v) q1 i hs))⟩
  · exact p.elim
/-- xs[i] = v -/
def putIn (w x y : U) (s : Sl) (h3 : Mh) : RS := match x, y with
  | .loc n, .int k => match h3[n]? with
    | some (.lst xs) => match ixN xs.length k with
      | some j => .nx s (h3.set n (.lst (xs.set j w)))
      | none => .stuck
    | _ => .stuck
  | _, _ => .stuck
def sPut (o i v : Me) : Ms := fun s h => (v s h).bindS s fun w h1 => (o s h1).bindS s fun x h2 => (i s h2).bindS s fun y h3 => putIn w x y s h3
theorem PostS.cutE {α β : Type} {rel : Wd → α → β → Prop} {ρ : Wd} {s : Sl} {σ : L2.St} {r : R α} {f : α → Mh → RS} {D : Ends} (hs : Rsl g ρ s σ) (p : PostS g W ρ (r.bindS s f) D) :
    Post g rel ρ r (fun b H1 => ∃ ρ1 a h1, Wd.Le ρ ρ1 ∧ Cs g ρ1 h1 H1 ∧ rel ρ1 a b ∧ PostS g W ρ1 (f a h1) D) (WE W σ) := by
  cases r with
  | ok a h => exact fun ρ2 b H2 e2 c2 r2 => ⟨ρ2, a, h, e2, c2, r2, PostS.mono e2 p⟩
  | ex c f h => exact fun ρ1 H1 e1 c1 => p ρ1 σ H1 e1 c1 (Rsl.mono e1 hs)
  | stuck => exact p.elim
theorem s_put {o i v : Expr} {O' I' V' : Me} {p2 : Pos} (ho : PE X o (T g W O')) (hi : PE X i (T g W I')) (hv : PE X v (T g W V'))
    (ha : ∀ v, assign (.Subscript o i p2) X.env v = (do
      let ov ← holding [v] (eval o X.env); let iv ← holding [v, ov] (eval i X.env)
      standAt p2
      holding [v, ov, iv] (setItem ov iv v); release [v, ov, iv] []) := by intro _; rfl) (hs : swapsWithSole [.Subscript o i p2] v pos.line X.env = pure false := by rfl) (hw : swappedStores [.Subscript o i p2] v X.env = pure none := by rfl)
    (h1 : (assignEach [.Subscript o i p2] X.env).map (·.2) = [assign (.Subscript o i p2) X.env] := by rfl) : PS X (.Assign [.Subscript o i p2] v pos) (TSm g W (sPut O' I' V')) := by
  refine PS.im (ps_asg hv (pg_sub ho hi set_list ha) hs hw h1) fun D σ H q => ?_
  refine AtS.seqE (rel := Rl g) (m := V') (k := fun w s h1 => (O' s h1).bindS s fun x h2 => (I' s h2).bindS s fun y h3 => putIn w x y s h3) q fun ρ1 w s h1 vw H1 hs1 c1 r1 p1 => ?_
  refine ⟨ρ1, s, h1, hs1, c1, (PostS.cutE (rel := Rl g) hs1 p1).imp fun vx H2 ⟨ρ2, x, h2, e2, c2, r2, p2⟩ => ?_⟩
  refine ⟨ρ2, s, h2, Rsl.mono e2 hs1, c2, (PostS.cutE (rel := Rl g) (Rsl.mono e2 hs1) p2).imp fun vy H3 ⟨ρ3, y, h3, e3, c3, r3, p3⟩ => ?_⟩
  cases x with
  | loc n =>
    cases y with
    | int k =>
      simp only [putIn] at p3
      cases en : h3[n]? with
      | none => rw [en] at p3; exact p3.elim
      | some o =>
        rw [en] at p3
        cases o with
        | lst xs =>
          simp only at p3
          cases ej : ixN xs.length k with
          | none => rw [ej] at p3; exact p3.elim
          | some j =>
            rw [ej] at p3
            obtain ⟨ad, vs, rfl, ea, rv, ha'⟩ := c3.lst en (Rl.mono e3 r2)
            refine ⟨ad, vs, k, j, rfl, r3, ha', by rw [← Paired.length rv]; exact ej, ?_⟩
            exact p3 ρ3 σ _ (Wd.refl _) (c3.put (o := .lst (xs.set j w)) ea (nfL ha') ⟨vs.set j vw, Paired.set (F := Rl g ρ3) (Rl.mono (e2.trans e3) r1) j rv, upd_same⟩ (c3.live en ea)) (Rsl.mono (e2.trans e3) hs1)
        | _ => exact p3.elim
    | _ => exact p3.elim
  | _ => cases y <;> exact p3.elim
end
end Vm

set_option Elab.async false
set_option linter.all false
set_option maxRecDepth 100000
set_option maxHeartbeats 4100000
namespace Vm
open L2 PyProof.Rows PySem PySem.Spec
/-! ### raise -/
abbrev veB : List Value := [.type "ValueError", .type "Exception", .type "BaseException", .type "object"]
section
variable {X : Cx} {C : Addr} {B newId initId : String} {bmB : List Value}
theorem pmk_own0 {x : Str} {p pos : Pos} (F : ExcBaseFacts B newId initId bmB) (q : PySem.W.excIn X.K C bmB newId = true) (gC : X.mg x = some (.ref C)) (kC : PySem.W.keepIn X.K (.ref C) = true) (r : Raises X (.ref C)) (hg : Gl X x)
    (hdb : (x == ("__debug__" : Str)) = false := by decide) : PMk X (.Call (.Name x p) [] [] pos) (fun _ H Q => Q (.ref C) none H) := by
  intro pins s σ H Q I h
  refine wpAny_Call_Name_kw (ld_glob I hg gC ?_ hdb); refine PySem.W.callWith_K0 I.kIn kC ?_
  show wpAny _ _ (call (.ref C) []) _ _ _
  obtain ⟨bm, N, nm, qn, bs, hdct, sn, sub, ab, col, dd, k0, k1, k2, k3, k5, mN, hC, hN, hni, T⟩ := exc_obj I.kIn q
  refine wpAny_call_exc_subT F T hC hN hni (fun h' e hm => ?_) (by show 0 ≤ sizeLine; exact Nat.zero_le _)
  exact mk_of I hm r h (I.hok.gone hm.new)
end
/-- what the written part says of an own exception class without own __init__ -/
structure Xc0 (K : PySem.W.Frag) (mg : Str → Option Value) (x : Str) (C : Addr) : Prop where
  gC : mg x = some (.ref C)
  kC : (PySem.W.keepIn K (.ref C)) = true
  xP : PySem.W.excIn K C veB "ValueError.__new__" = true
  bP : PySem.W.subIn K (.ref C) (.type "BaseException") = some true
  tP : PySem.W.typeIn K (.ref C) = some (.type "type")
/-- of one whose __init__ stores its one argument -/
structure Xc1 (K : PySem.W.Frag) (mg : Str → Option Value) (x f : Str) (C fI : Addr) : Prop where
  gC : mg x = some (.ref C)
  ox : OexC K C
  iC : PySem.W.findIn K (.ref C) "__init__" = some (some (.ref fI))
  tI : PySem.W.typeIn K (.ref fI) = some (.type "function")
  nf : PySem.W.findIn K (.ref C) f = some none
def spI (K : PySem.W.Frag) (f : Str) : Sp := fun vs H Q _ => ∃ a C y, vs = [.ref a, y] ∧ OexC K C ∧ PySem.W.findIn K (.ref C) f = some none ∧ H a = some (exo a C none) ∧
  ∀ dx, H dx = none → dx ≠ a → Q .non (upd (upd H dx (exd dx [(f, y)])) a (exo a C (some dx)))
/-- def __init__(self, f): self.f = f -/
theorem init_ok {P : Program} {w : World} {K : PySem.W.Frag} {mg : Str → Option Value} {base : Heap} {qual f : Str} {st : Stmt} {fI : Addr} {fd : FuncData} {k : Nat} {p1 p2 p3 p4 : Pos} (F : Fun K "__init__" qual st fI fd) (S : FnScope ["self", f] ["self", f] (defScope st))
    (hb : defBody st = [.Assign [.Attribute (.Name "self" p1) f p2] (.Name f p3) p4]) (h0 : Vis (defScope st) "self") (h1 : Vis (defScope st) f) (hd : (f == ("__debug__" : Str)) = false) (hcd : (f == ("__classdict__" : Str)) = false)
    (hs : ∀ X : Cx, swapsWith (.Name f p3) (some (.Attribute (.Name "self" p1) f p2)) p4.line X.env = pure false) :
    FnOk P w K mg base (L2.CX P w) (k + 1) fI fd ["self", f] (spI K f) := by
  refine F.okX S (fun vs H Q E h => ?_) (fun cdv A outer s H vs Q E hr h => ?_)
  · obtain ⟨a, C, y, rfl, _⟩ := h
    rfl
  · obtain ⟨a, C, y, rfl, T, nf, ea, q⟩ := h
    rw [hb]
    refine ⟨_, pss_one (ps_ost (pe_var (i := 0) (x := "self") rfl h0) (pe_var (i := 1) (x := f) rfl h1 hd hcd) (hs _)), ?_⟩
    exact ⟨y, rfl, .ref a, rfl, a, C, rfl, T, nf, .inl ⟨ea, fun dx n ne => q dx n ne⟩⟩
def sRaise0 (c : Nat) : Ms := fun s h => .ex c [] s h
def sRaise1 (c : Nat) (f : Str) (a : Me) : Ms := fun s h => (a s h).bindS s fun u h1 => .ex c [(f, u)] s h1
section
variable {X : Cx} {g : Gc} {W : WX} {A : Me} {M N : Ms} {e : Expr} {pos : Pos}
theorem s_raise0 {c : Nat} {x : Str} {p p2 : Pos} (hc : X.calm = true) (tk : Takes X W) (T : Xc0 X.K X.mg x (g.cl c)) (hg : Gl X x) (hdb : (x == ("__debug__" : Str)) = false := by decide) :
    PS X (.Raise (some (.Call (.Name x p) [] [] pos)) none p2) (TSm g W (sRaise0 c)) :=
  PS.im (ps_raise hc tk (pmk_own0 PySem.F.excBase_ValueError T.xP T.gC T.kC (raises_own T.bP T.tP) hg hdb)) fun D σ H ⟨ρ, s, h, hs, cs, p⟩ => (p ρ σ H (Wd.refl _) cs hs).1 rfl
theorem s_raise1 {c : Nat} {x f : Str} {p p2 : Pos} {fI : Addr} {fd : FuncData} {k : Nat} (hc : X.calm = true) (tk : Takes X W) (tk0 : Passes (L2.CX X.prog X.w) X (fun _ _ _ => False)) (T : Xc1 X.K X.mg x f (g.cl c) fI) (F : FnOk X.prog X.w X.K X.mg X.base (L2.CX X.prog X.w) k fI fd ["self", f] (spI X.K f)) (hr : Room (k + 1) X.A)
    (hb : Binds X.K fd ["self", f] []) (hg : Gl X x) (ha : PE X e (Vm.T g W A)) (hst : starEach [e] X.env = (false, eval e X.env) :: starEach [] X.env := by rfl) (hpl : (backTo pos (starEach ([] : List Expr) X.env)).any (·.1) = false := by rfl) (hdb : (x == ("__debug__" : Str)) = false := by decide) :
    PS X (.Raise (some (.Call (.Name x p) [e] [] pos)) none p2) (TSm g W (sRaise1 c f A)) := by
  refine PS.im (ps_raise hc tk (pmk_oex (sp := spI X.K f) (ds := []) (dvs := []) T.ox T.iC T.tI F hr hb .nil tk0 hg T.gC (pa_cons ha pa_nil hst) hdb hst hpl)) fun D σ H q => ?_
  refine AtS.seqE (rel := Rl g) (k := fun u s h1 => .ex c [(f, u)] s h1) q fun ρ1 u s h1 v H1 hs c1 r1 p => ?_
  refine ⟨(by show 1 ≤ 1000; decide), fun a ha => ⟨a, g.cl c, v, rfl, T.ox, T.nf, upd_same, fun dx hdx hne => ⟨rfl, dx, [(f, v)], upd_same, ?_, ?_, ?_⟩⟩⟩
  · rw [upd_ne hne, upd_same]
  · rw [upd_ne hne] at hdx
    exact hdx
  · have hd0 : H1 dx = none := by
      rw [upd_ne hne] at hdx
      exact hdx
    have q := (p ρ1 σ H1 (Wd.refl _) c1 hs).2 dx [(f, v)] (by simp) hd0 (.cons ⟨rfl, r1⟩ .nil)
    have e : upd (del (upd (upd (upd H1 a (exo a (g.cl c) none)) dx (exd dx [(f, v)])) a (exo a (g.cl c) (some dx))) a) dx (HO.xd [(f, v)]) = upd H1 dx (HO.xd [(f, v)]) := by
      funext b
      by_cases h1 : b = dx
      · subst h1
        rw [upd_same, upd_same]
      · rw [upd_ne h1, upd_ne h1]
        by_cases h2 : b = a
        · subst h2
          rw [del_same, ha]
        · rw [del_ne h2, upd_ne h2, upd_ne h1, upd_ne h2]
    show W (.ref (g.cl c)) (some dx) σ _
    rw [e]
    exact q

/-! ### try .. except X: suite -/
def noEx : RS → RS
  | .ex _ _ _ _ => .stuck
  | r => r
/-- tks: whether the clause takes the class -/
def sTry (b : Ms) (tks : Nat → Option Bool) (sx : Ms) : Ms := fun s h => match b s h with
  | .ex c f s1 h1 => match tks c with
    | some true => noEx (sx s1 h1)
    | some false => .ex c f s1 h1
    | none => .stuck
  | r => r
theorem PostS.noEx {ρ : Wd} {r : RS} {D : Ends} {W' : WX} (p : PostS g W ρ (noEx r) D) : PostS g W' ρ r D := by
  cases r with
  | ex c f s h => exact p.elim
  | nx s h => exact p
  | rt u h => exact p
  | bk s h => exact p
  | ct s h => exact p
  | stuck => exact p
theorem s_try {x : Str} {cv : Value} {body suite : List Stmt} {b₀ : Stmt} {np pos' : Pos} {tks : Nat → Option Bool} (hs : X.stack = X.env :: X.outer) (hf : X.env.frame = some X.env.locals) (hc : Names X x cv) (tk : Takes X W)
    (hx : ∀ c k, tks c = some k → PySem.W.exmOne X.K (.ref (g.cl c)) cv = some k)
    (hb : ∀ (W' : WX) (pn : List (Addr × Obj)) (xe : Value → Shared → Prop), Takes (X.tr pn xe) W' → PassesOwn (model X.prog X.w) X.A X.env xe → PSs (X.tr pn xe) body (TSm g W' M))
    (hsu : ∀ (a : Addr) (pn : List (Addr × Obj)), PSs (X.suite a pn) (b₀ :: suite) (TSm g W0 N)) :
    PS X (.Try body [.ExceptHandler (some (.Name x np)) none (b₀ :: suite) pos'] [] [] pos) (TSm g W (sTry M tks N)) := by
  refine PS.im (ps_try_only (tb := fun W' => TSm g W' M) (ts := fun _ _ _ => TSm g W0 N) hs hf hc tk hb (fun a oe cls d pn _ _ => hsu a _)) fun D σ H ⟨ρ, s, h, hr, cs, p⟩ => ?_
  refine ⟨ρ, s, h, hr, cs, ?_⟩
  unfold sTry at p
  cases em : M s h with
  | ex c f s1 h1 =>
    rw [em] at p
    simp only at p
    intro ρ' σ' H' e' c' r'
    cases et : tks c with
    | none => rw [et] at p; exact p.elim
    | some k =>
      rw [et] at p
      have ek := hx c k et
      cases k with
      | true =>
        simp only at p
        have q : PostS g W0 ρ' (N s1 h1) D := PostS.mono e' (PostS.noEx p)
        exact ⟨fun _ => ⟨true, ek, fun _ a _ => ⟨ρ', s1, h1, r', c', q⟩, (fun z => nomatch z)⟩, fun d gs _ hd _ => ⟨true, ek, fun _ a _ => ⟨ρ', s1, h1, r', c'.skip hd, q⟩, (fun z => nomatch z)⟩⟩
      | false =>
        simp only at p
        exact ⟨fun f0 => ⟨false, ek, (fun z => nomatch z), fun _ => (p ρ' σ' H' e' c' r').1 f0⟩, fun d gs f0 hd rf => ⟨false, ek, (fun z => nomatch z), fun _ => (p ρ' σ' H' e' c' r').2 d gs f0 hd rf⟩⟩
  | nx s1 h1 => rw [em] at p; exact p
  | rt u h1 => rw [em] at p; exact p
  | bk s1 h1 => rw [em] at p; exact p
  | ct s1 h1 => rw [em] at p; exact p
  | stuck => rw [em] at p; exact p
/-! ### try .. except X as n: suite; n's fields read -/
/-- no place of the caught exception -/
def clean : U → Bool
  | .exn => false
  | _ => true
def cleanO : O → Bool
  | .lst xs => xs.all clean
  | .tup xs => xs.all clean
  | .tpl xs => xs.all clean
  | .ins _ fs => fs.all fun p => clean p.2
  | .exc _ fs => fs.all fun p => clean p.2
  | .ded => true
def cleanS (s : Sl) : Bool := s.all fun u => match u with
  | some u => clean u
  | none => true
def unslot (i : Nat) : RS → RS
  | .nx s h => if cleanS (s.set i none) && h.all cleanO then .nx (s.set i none) h else .stuck
  | .rt u h => if clean u && h.all cleanO then .rt u h else .stuck
  | _ => .stuck
def sTryAs (b : Ms) (tks : Nat → Option Bool) (i : Nat) (sx : Nat → List (Str × U) → Ms) : Ms := fun s h => match b s h with
  | .ex c f s1 h1 => match tks c with
    | some true => match f with
      | [] => .stuck
      | p :: f => unslot i (sx c (p :: f) (s1.set i (some .exn)) h1)
    | some false => .ex c f s1 h1
    | none => .stuck
  | r => r
/-- the context within a suite -/
abbrev Gc.at (g : Gc) (a dd : Addr) (f : List (Str × U)) : Gc := { g with exn := some (a, dd, f) }
end
section
variable {g : Gc} {ρ : Wd} {h : Mh} {H : Hp} {a dd : Addr} {f : List (Str × U)}
theorem Rl.up (hg : g.exn = none) {u : U} {v : V} (r : Rl g ρ u v) : Rl (g.at a dd f) ρ u v := by
  cases u with
  | exn =>
    obtain ⟨_, _, _, e, _⟩ := r
    rw [hg] at e
    cases e
  | _ => exact r
theorem Rls.up (hg : g.exn = none) {us : List U} {vs : List V} (r : Rls g ρ us vs) : Rls (g.at a dd f) ρ us vs := Paired.mapP r fun _ _ q => Rl.up hg q
theorem Rf.up (hg : g.exn = none) {us : List (Str × U)} {vs : List (Str × V)} (r : Rf g ρ us vs) : Rf (g.at a dd f) ρ us vs := Paired.mapP r fun _ _ q => ⟨q.1, Rl.up hg q.2⟩
theorem Rsl.up (hg : g.exn = none) {us : Sl} {vs : L2.St} (r : Rsl g ρ us vs) : Rsl (g.at a dd f) ρ us vs := Paired.mapP r fun x y q => by
  cases x with
  | none => trivial
  | some u =>
    cases y with
    | none => exact q
    | some v => exact Rl.up hg q
theorem Om.up (hg : g.exn = none) {b : Addr} {o : O} (m : Om g ρ H b o) : Om (g.at a dd f) ρ H b o := by
  cases o with
  | lst xs => obtain ⟨vs, r, q⟩ := m; exact ⟨vs, Rls.up hg r, q⟩
  | tup xs => obtain ⟨vs, o, r, d, q⟩ := m; exact ⟨vs, o, Rls.up hg r, d, q⟩
  | tpl xs => obtain ⟨vs, r, q⟩ := m; exact ⟨vs, Rls.up hg r, q⟩
  | ins c fs => obtain ⟨dx, gs, r, q⟩ := m; exact ⟨dx, gs, Rf.up hg r, q⟩
  | exc c fs =>
    rcases m with ⟨e0, q⟩ | ⟨dx, gs, r, q, q2⟩
    · exact .inl ⟨e0, q⟩
    · exact .inr ⟨dx, gs, Rf.up hg r, q, q2⟩
  | ded => exact m
theorem Cs.up (hg : g.exn = none) (c : Cs g ρ h H) {gs : List (Str × V)} (r : Rf g ρ f gs) (e : H dd = some (.xd gs)) : Cs (g.at a dd f) ρ h H :=
  ⟨c.len, fun n o b e1 e2 => Om.up hg (c.at_ n o b e1 e2), c.inj, c.scr, fun a' dd' f' ex => by
    have ex' : some (a, dd, f) = some (a', dd', f') := ex
    cases ex'
    exact ⟨gs, Rf.up hg r, e⟩, c.fzH, c.lkH, c.apt, c.nfl⟩
theorem Rl.down {u : U} {v : V} (r : Rl (g.at a dd f) ρ u v) (c : clean u = true) : Rl g ρ u v := by
  cases u with
  | exn => cases c
  | _ => exact r
theorem Rls.down : ∀ {us : List U} {vs : List V}, Rls (g.at a dd f) ρ us vs → us.all clean = true → Rls g ρ us vs
  | _, _, .nil, _ => .nil
  | _, _, .cons q t, c => by
    rw [List.all_cons, Bool.and_eq_true] at c
    exact .cons (Rl.down q c.1) (Rls.down t c.2)
theorem Rf.down : ∀ {us : List (Str × U)} {vs : List (Str × V)}, Rf (g.at a dd f) ρ us vs → (us.all fun p => clean p.2) = true → Rf g ρ us vs
  | _, _, .nil, _ => .nil
  | _, _, .cons q t, c => by
    rw [List.all_cons, Bool.and_eq_true] at c
    exact .cons ⟨q.1, Rl.down q.2 c.1⟩ (Rf.down t c.2)
theorem Rsl.down : ∀ {us : Sl} {vs : L2.St}, Rsl (g.at a dd f) ρ us vs → cleanS us = true → Rsl g ρ us vs
  | _, _, .nil, _ => .nil
  | x :: _, y :: _, .cons q t, c => by
    unfold cleanS at c
    rw [List.all_cons, Bool.and_eq_true] at c
    refine .cons ?_ (Rsl.down t c.2)
    cases x with
    | none => trivial
    | some u =>
      cases y with
      | none => exact q
      | some v => exact Rl.down q c.1
theorem Cs.down (c : Cs (g.at a dd f) ρ h H) (hg : g.exn = none) (k : h.all cleanO = true) : Cs g ρ h H :=
  ⟨c.len, fun n o b e1 e2 => by
    have m := c.at_ n o b e1 e2
    have ko : cleanO o = true := List.all_eq_true.mp k o (List.mem_of_getElem? e1)
    cases o with
    | lst xs => obtain ⟨vs, r, q⟩ := m; exact ⟨vs, Rls.down r ko, q⟩
    | tup xs => obtain ⟨vs, o, r, d, q⟩ := m; exact ⟨vs, o, Rls.down r ko, d, q⟩
    | tpl xs => obtain ⟨vs, r, q⟩ := m; exact ⟨vs, Rls.down r ko, q⟩
    | ins c fs => obtain ⟨dx, gs, r, q⟩ := m; exact ⟨dx, gs, Rf.down r ko, q⟩
    | exc c fs =>
      rcases m with ⟨e0, q⟩ | ⟨dx, gs, r, q, q2⟩
      · exact .inl ⟨e0, q⟩
      · exact .inr ⟨dx, gs, Rf.down r ko, q, q2⟩
    | ded => exact m, c.inj, c.scr, fun a' dd' f' ex => by
    (rw [hg] at ex; cases ex), c.fzH, c.lkH, c.apt, c.nfl⟩
end
section
variable {X : Cx} {g : Gc} {W : WX} {A : Me} {M : Ms} {e : Expr} {pos : Pos}
theorem s_tryAs {x n : Str} {cv : Value} {body suite : List Stmt} {b₀ : Stmt} {np pos' : Pos} {tks : Nat → Option Bool} {i : Nat} {N : Nat → List (Str × U) → Ms} (hgx : g.exn = none) (hs : X.stack = X.env :: X.outer) (hf : X.env.frame = some X.env.locals) (hN : X.N.Nodup) (hi : X.N[i]? = some n) (hln : X.env.kindOf n = some .local) (hc : Names X x cv) (tk : Takes X W)
    (hx : ∀ c k, tks c = some k → PySem.W.exmOne X.K (.ref (g.cl c)) cv = some k)
    (hb : ∀ (W' : WX) (pn : List (Addr × Obj)) (xe : Value → Shared → Prop), Takes (X.tr pn xe) W' → PassesOwn (model X.prog X.w) X.A X.env xe → PSs (X.tr pn xe) body (TSm g W' M))
    (hsu : ∀ (a : Addr) (oe : Obj) (c : Nat) (dd : Addr) (f : List (Str × U)) (pn : List (Addr × Obj)), tks c = some true → Zc (.ref (g.cl c)) (some dd) oe → (∃ vs, oe.data = .fields vs) → PSs (X.suite a ((a, oe) :: pn)) (b₀ :: suite) (TSm (g.at a dd f) W0 (N c f))) :
    PS X (.Try body [.ExceptHandler (some (.Name x np)) (some n) (b₀ :: suite) pos'] [] [] pos) (TSm g W (sTryAs M tks i N)) := by
  refine PS.im (ps_try_as (tb := fun W' => TSm g W' M) (ts := fun a cls d D σ H => ∃ c dd f, cls = .ref (g.cl c) ∧ d = some dd ∧ tks c = some true ∧ TSm (g.at a dd f) W0 (N c f) D σ H) hs hf hN hi hln hc tk hb (fun a oe cls d pn hz hd => ⟨fun pins s σ H D I q => ?_⟩)) fun D σ H ⟨ρ, s, h, hr, cs, p⟩ => ?_
  · obtain ⟨c, dd, f, rfl, rfl, ht, q⟩ := q
    exact (hsu a oe c dd f pn ht hz hd).run pins s σ H D I q
  refine ⟨ρ, s, h, hr, cs, ?_⟩
  unfold sTryAs at p
  cases em : M s h with
  | ex c f s1 h1 =>
    rw [em] at p
    simp only at p
    intro ρ' σ' H' e' c' r'
    cases et : tks c with
    | none => rw [et] at p; exact p.elim
    | some k =>
      rw [et] at p
      have ek := hx c k et
      cases k with
      | true =>
        simp only at p
        cases f with
        | nil => exact p.elim
        | cons p0 f0 =>
        simp only at p
        have hne : p0 :: f0 ≠ [] := by simp
        generalize p0 :: f0 = f at p hne
        refine ⟨fun f0 => absurd f0 hne, fun d gs _ hd rf => ⟨true, ek, fun _ a ha => ⟨c, d, f, rfl, rfl, et, ρ', s1.set i (some .exn), h1, ?_, Cs.up hgx (c'.skip hd) rf upd_same, ?_⟩, (fun z => nomatch z)⟩⟩
        · exact Paired.set (F := Rol (g.at a d f) ρ') (x := some .exn) (y := some (.ref a)) ⟨a, d, f, rfl, rfl⟩ i (Rsl.up hgx r')
        · have p := PostS.mono e' p
          cases en : N c f (s1.set i (some .exn)) h1 with
          | nx s2 h2 =>
            rw [en] at p
            simp only [unslot] at p
            cases ek : (cleanS (s2.set i none) && h2.all cleanO) with
            | true =>
              rw [ek, if_pos rfl] at p
              rw [Bool.and_eq_true] at ek
              intro ρ2 σ2 H2 e2 c2 r2
              exact p ρ2 _ H2 e2 (c2.down hgx ek.2) (Rsl.down (Paired.set (F := Rol (g.at a d f) ρ2) (x := none) (y := none) trivial i r2) ek.1)
            | false => rw [ek, if_neg Bool.false_ne_true] at p; exact p.elim
          | rt u h2 =>
            rw [en] at p
            simp only [unslot] at p
            cases ek : (clean u && h2.all cleanO) with
            | true =>
              rw [ek, if_pos rfl] at p
              rw [Bool.and_eq_true] at ek
              intro ρ2 v2 H2 e2 c2 r2
              exact p ρ2 v2 H2 e2 (c2.down hgx ek.2) (Rl.down r2 ek.1)
            | false => rw [ek, if_neg Bool.false_ne_true] at p; exact p.elim
          | bk s2 h2 => rw [en] at p; exact p.elim
          | ct s2 h2 => rw [en] at p; exact p.elim
          | ex c2 f2 s2 h2 => rw [en] at p; exact p.elim
          | stuck => rw [en] at p; exact p.elim
      | false =>
        simp only at p
        exact ⟨fun f0 => ⟨false, ek, (fun z => nomatch z), fun _ => (p ρ' σ' H' e' c' r').1 f0⟩, fun d gs f0 hd rf => ⟨false, ek, (fun z => nomatch z), fun _ => (p ρ' σ' H' e' c' r').2 d gs f0 hd rf⟩⟩
  | nx s1 h1 => rw [em] at p; exact p
  | rt u h1 => rw [em] at p; exact p
  | bk s1 h1 => rw [em] at p; exact p
  | ct s1 h1 => rw [em] at p; exact p
  | stuck => rw [em] at p; exact p
/-- n.attr in the suite -/
def mXf (f : List (Str × U)) (n : Str) (a : Me) : Me := fun s h => (a s h).bind fun u h1 => match u with
  | .exn => match f.lookup n with
    | some w => .ok w h1
    | none => .stuck
  | _ => .stuck
theorem Rf.look {ρ : Wd} {n : Str} : ∀ {f : List (Str × U)} {gs : List (Str × V)} {u : U}, Rf g ρ f gs → f.lookup n = some u → ∃ v, gs.lookup n = some v ∧ Rl g ρ u v
  | _, _, _, .nil, e => by cases e
  | (m, x) :: _, (m', y) :: _, u, .cons ⟨q1, q2⟩ t, e => by
    have q1 : m = m' := q1
    subst q1
    unfold List.lookup at e ⊢
    cases hm : n == m with
    | true =>
      rw [hm] at e
      cases e
      exact ⟨y, rfl, q2⟩
    | false =>
      rw [hm] at e
      exact Rf.look t e
theorem e_xf {a : Addr} {oe : Obj} {c : Nat} {dd : Addr} {f : List (Str × U)} {pn : List (Addr × Obj)} {n : Str} (T : XfC X.K (g.cl c)) (hno : PySem.W.findIn X.K (.ref (g.cl c)) n = some none) (hz : Zc (.ref (g.cl c)) (some dd) oe) (hf : ∃ vs, oe.data = .fields vs)
    (he : PE (X.suite a ((a, oe) :: pn)) e (Vm.T (g.at a dd f) W A)) (hb : attributeBase e n X.env (eval e X.env) = eval e X.env := by rfl) :
    PE (X.suite a ((a, oe) :: pn)) (.Attribute e n pos) (Vm.T (g.at a dd f) W (mXf f n A)) := by
  refine PE.im (pe_xf T hno hz hf he hb) fun σ H Q q => At.seq (rel := Rl (g.at a dd f)) q fun ρ1 x s h1 v H1 hs1 c1 r1 p1 => ?_
  cases x with
  | exn =>
    obtain ⟨a', dd', f', ex, rfl⟩ := r1
    have ex' : some (a, dd, f) = some (a', dd', f') := ex
    cases ex'
    obtain ⟨gs, rf, ed⟩ := c1.xn a dd f rfl
    simp only at p1
    cases el : f.lookup n with
    | none => rw [el] at p1; exact p1.elim
    | some w =>
      rw [el] at p1
      obtain ⟨vv, ev, rv⟩ := Rf.look rf el
      exact ⟨rfl, rfl, dd, gs, vv, rfl, ed, ev, Post.here (rel := Rl (g.at a dd f)) p1 c1 rv⟩
  | _ => exact p1.elim
end
end Vm

set_option Elab.async false
set_option linter.all false
set_option maxRecDepth 100000
set_option maxHeartbeats 4100000
namespace Vm
open L2 PyProof.Rows PySem PySem.Spec
/-! ### own classes -/
/-- the instance's fields, of the class c -/
def insOf (c : Nat) (u : U) (h : Mh) : Option (Nat × List (Str × U)) := match u with
  | .loc n => match h[n]? with
    | some (.ins k fs) => if k = c then some (n, fs) else none
    | _ => none
  | _ => none
def mFld (c : Nat) (f : Str) (a : Me) : Me := fun s h => (a s h).bind fun u h1 => match insOf c u h1 with
  | some (_, fs) => match fs.lookup f with
    | some w => .ok w h1
    | none => .stuck
  | none => .stuck
def putFU (f : Str) (v : U) : List (Str × U) → List (Str × U)
  | [] => [(f, v)]
  | (g, x) :: r => if g = f then (g, v) :: r else (g, x) :: putFU f v r
def sFldM (c : Nat) (f : Str) (o v : Me) : Ms := fun s h => (v s h).bindS s fun w h1 => (o s h1).bindS s fun u h2 => match insOf c u h2 with
  | some (n, fs) => if fs.length < 1000 then .nx s (h2.set n (.ins c (putFU f w fs))) else .stuck
  | none => .stuck
/-- o.m(..), m no attribute of the object -/
def mMeth (c : Nat) (m : Str) (d : List U → Mh → R U) (o : Me) (a : Ml) : Me := fun s h => (o s h).bind fun u h1 => match insOf c u h1 with
  | some (_, fs) => match fs.lookup m with
    | none => (a s h1).bind fun us h2 => d (u :: us) h2
    | some _ => .stuck
  | none => .stuck
def nox {α : Type} : R α → R α
  | .ex _ _ _ => .stuck
  | r => r
def mProp (c : Nat) (d : List U → Mh → R U) (o : Me) : Me := fun s h => (o s h).bind fun u h1 => match insOf c u h1 with
  | some _ => nox (d [u] h1)
  | none => .stuck
def mMake (c : Nat) (d : List U → Mh → R U) (a : Ml) : Me := fun s h => (a s h).bind fun us h1 => (d (.loc h1.length :: us) (h1 ++ [.ins c []])).bind fun w h2 => match w with
  | .non => .ok (.loc h1.length) h2
  | _ => .stuck
section
variable {X : Cx} {g : Gc} {W : WX} {A O' V' : Me} {L : Ml} {e o v : Expr} {es : List Expr} {f m x : Str} {pos p apos : Pos} {c : Nat}
theorem insOf_ok {ρ : Wd} {h : Mh} {H : Hp} {u : U} {vv : V} {n : Nat} {fs : List (Str × U)} (cs : Cs g ρ h H) (r : Rl g ρ u vv) (e : insOf c u h = some (n, fs)) : ∃ a dx gs, u = .loc n ∧ vv = .ref a ∧ ρ.as[n]? = some a ∧ Rf g ρ fs gs ∧ H a = some (.ins (g.cl c) dx gs) := by
  unfold insOf at e
  cases u with
  | loc k =>
    simp only at e
    cases en : h[k]? with
    | none => rw [en] at e; cases e
    | some ob =>
      rw [en] at e
      cases ob with
      | ins k2 fs2 =>
        simp only at e
        by_cases hk : k2 = c
        · rw [if_pos hk] at e
          cases e
          subst hk
          obtain ⟨a, ea, rfl⟩ := r
          obtain ⟨dx, gs, rf, q⟩ := cs.at_ _ _ a en ea
          exact ⟨a, dx, gs, rfl, rfl, ea, rf, q⟩
        · rw [if_neg hk] at e
          cases e
      | _ => cases e
  | _ => cases e
theorem insOf_en {h : Mh} {u : U} {n : Nat} {fs : List (Str × U)} (e : insOf c u h = some (n, fs)) : h[n]? = some (.ins c fs) := by
  unfold insOf at e
  cases u with
  | loc k =>
    simp only at e
    cases en : h[k]? with
    | none => rw [en] at e; cases e
    | some ob =>
      rw [en] at e
      cases ob with
      | ins k2 fs2 =>
        simp only at e
        by_cases hk : k2 = c
        · rw [if_pos hk] at e
          cases e
          subst hk
          exact en
        · rw [if_neg hk] at e
          cases e
      | _ => cases e
  | _ => cases e
theorem Rf.look0 {ρ : Wd} {n : Str} : ∀ {f : List (Str × U)} {gs : List (Str × V)}, Rf g ρ f gs → f.lookup n = none → gs.lookup n = none
  | _, _, .nil, _ => rfl
  | (m, x) :: _, (m', y) :: _, .cons ⟨q1, q2⟩ t, e => by
    have q1 : m = m' := q1
    subst q1
    unfold List.lookup at e ⊢
    cases hm : n == m with
    | true => rw [hm] at e; cases e
    | false => rw [hm] at e; exact Rf.look0 t e
theorem Rf.put {ρ : Wd} {n : Str} {w : U} {vw : V} (r : Rl g ρ w vw) : ∀ {f : List (Str × U)} {gs : List (Str × V)}, Rf g ρ f gs → Rf g ρ (putFU n w f) (putF n vw gs)
  | _, _, .nil => .cons ⟨rfl, r⟩ .nil
  | (m, x) :: f, (m', y) :: gs, .cons ⟨q1, q2⟩ t => by
    have q1 : m = m' := q1
    subst q1
    unfold putFU putF
    by_cases hm : m = n
    · rw [if_pos hm, if_pos hm]
      exact .cons ⟨rfl, r⟩ t
    · rw [if_neg hm, if_neg hm]
      exact .cons ⟨rfl, q2⟩ (Rf.put r t)
theorem e_fld (T : Cls X.K (g.cl c)) (nf : NoAttr X.K (g.cl c) f) (he : PE X e (Vm.T g W A)) (hb : attributeBase e f X.env (eval e X.env) = eval e X.env := by rfl) : PE X (.Attribute e f pos) (Vm.T g W (mFld c f A)) := by
  refine PE.im (pe_fld he hb) fun σ H Q q => At.seq (rel := Rl g) q fun ρ1 u s h1 vv H1 hs1 c1 r1 p1 => ?_
  cases ei : insOf c u h1 with
  | none => rw [ei] at p1; exact p1.elim
  | some nf' =>
    obtain ⟨n, fs⟩ := nf'
    rw [ei] at p1
    simp only at p1
    obtain ⟨a, dx, gs, rfl, rfl, ea, rf, q⟩ := insOf_ok c1 r1 ei
    cases el : fs.lookup f with
    | none => rw [el] at p1; exact p1.elim
    | some w =>
      rw [el] at p1
      obtain ⟨y, ey, ry⟩ := Rf.look rf el
      exact ⟨a, g.cl c, dx, gs, y, rfl, q, T, nf, ey, Post.here (rel := Rl g) p1 c1 ry⟩
theorem s_fldM {p' : Pos} (T : Cls X.K (g.cl c)) (nf : NoAttr X.K (g.cl c) f) (ho : PE X o (Vm.T g W O')) (hv : PE X v (Vm.T g W V')) (hs : swapsWith v (some (.Attribute o f p')) pos.line X.env = pure false := by rfl) :
    PS X (.Assign [.Attribute o f p'] v pos) (TSm g W (sFldM c f O' V')) := by
  refine PS.im (ps_fld ho hv hs) fun D σ H q => ?_
  refine AtS.seqE (rel := Rl g) (m := V') (k := fun w s h1 => (O' s h1).bindS s fun u h2 => match insOf c u h2 with
    | some (n, fs) => if fs.length < 1000 then .nx s (h2.set n (.ins c (putFU f w fs))) else .stuck
    | none => .stuck) q fun ρ1 w s h1 vw H1 hs1 c1 r1 p1 => ?_
  refine ⟨ρ1, s, h1, hs1, c1, (PostS.cutE (rel := Rl g) hs1 p1).imp fun vx H2 ⟨ρ2, u, h2, e2, c2, r2, p2⟩ => ?_⟩
  cases ei : insOf c u h2 with
  | none => rw [ei] at p2; exact p2.elim
  | some nf' =>
    obtain ⟨n, fs⟩ := nf'
    rw [ei] at p2
    simp only at p2
    obtain ⟨a, dx, gs, rfl, rfl, ea, rf, q⟩ := insOf_ok c2 r2 ei
    by_cases hl : fs.length < 1000
    · rw [if_pos hl] at p2
      refine ⟨a, g.cl c, dx, gs, rfl, q, T, nf, by rw [← Paired.length rf]; exact hl, ?_⟩
      exact p2 ρ2 σ _ (Wd.refl _) (c2.put (o := .ins c (putFU f w fs)) ea ⟨fun _ _ z => (by rw [q] at z; cases z), fun _ z => (by rw [q] at z; cases z), fun _ z => (by rw [q] at z; cases z)⟩ ⟨dx, _, Rf.put (Rl.mono e2 r1) rf, upd_same⟩ (c2.live (insOf_en ei) ea)) (Rsl.mono e2 hs1)
    · rw [if_neg hl] at p2
      exact p2.elim
/-! ### methods, with what they may let out wished at the slots -/
def tMethS (C : Addr) (m : Str) (sp : Sp) (E : L2.St → XK) (ta : TE) (t : TA) : TE := fun σ H Q => ta σ H fun x H1 => ∃ a dx fs, x = .ref a ∧ H1 a = some (.ins C dx fs) ∧ fs.lookup m = none ∧
  t σ H1 fun vs H2 => sp (x :: vs) H2 Q (E σ)
theorem pe_methT {CX : CXT} {k : Nat} {C fm : Addr} {fd : FuncData} {ps : List Str} {sp : Sp} {E : L2.St → XK} {ta : TE} {t : TA} {pl : Sem Bool} (he : PE X o ta) (cl : Cls X.K C) (hm : Meth X.K C m fm) (F : FnOk X.prog X.w X.K X.mg X.base CX k fm fd ps sp) (hr : Room k X.A) (hb : Binds X.K fd ps []) (hx : ∀ σ, PassesAt CX X σ (E σ)) (ha : PA X (e :: es) t) (hst : starEach (e :: es) X.env = (false, eval e X.env) :: starEach es X.env := by rfl) (hpl : (backTo pos (starEach es X.env)).any (·.1) = false := by rfl) (ht : eval (.Call (.Attribute o m apos) (e :: es) [] pos) X.env = (do
      let ov ← eval o X.env
      standAt apos.atName
      let (f, first) ← holding [ov] (getMethod ov m pl); callWith pos f first (backTo pos (starEach (e :: es) X.env)) (backToKw pos (keywordEach [] X.env))) := by rfl) : PE X (.Call (.Attribute o m apos) (e :: es) [] pos) (tMethS C m sp E ta t) := by
  refine ⟨fun pins s σ H Q I h => ?_⟩; refine PySem.W.methodCall_KW (pl := pl) (thn (he.run pins s σ H _ I h) fun u s1 ⟨x, H1, I1, rx, a, dx, fs, ex, ea, l, q⟩ => ?_) ht
  subst ex
  obtain rfl : u = Value.ref a := rx; refine getmeth_ok I1 ea cl hm l ?_
  refine PySem.W.callWith_K (h₀ := X.base) (first := [.ref a]) I.ok.mod.kin hm.kp (thn (ha.run pos pins s1 σ H1 _ I1 q) fun us s2 ⟨vs, H2, I2, r, q2⟩ => ⟨I2.kIn, ?_⟩) hst hpl; exact run_fnS (us := .ref a :: us) (vs := .ref a :: vs) F hr hb (hx σ) I2 (.cons rfl r) q2
theorem pe_methT0 {CX : CXT} {k : Nat} {C fm : Addr} {fd : FuncData} {ps : List Str} {sp : Sp} {E : L2.St → XK} {ta : TE} {pl : Sem Bool} (he : PE X o ta) (cl : Cls X.K C) (hm : Meth X.K C m fm) (F : FnOk X.prog X.w X.K X.mg X.base CX k fm fd ps sp) (hr : Room k X.A) (hb : Binds X.K fd ps []) (hx : ∀ σ, PassesAt CX X σ (E σ)) (ht : eval (.Call (.Attribute o m apos) [] [] pos) X.env = (do
      let ov ← eval o X.env
      standAt apos.atName
      let (f, first) ← holding [ov] (getMethod ov m pl); callWith pos f first (backTo pos (starEach [] X.env)) (backToKw pos (keywordEach [] X.env))) := by rfl) :
    PE X (.Call (.Attribute o m apos) [] [] pos) (tMethS C m sp E ta tNil) := by
  refine ⟨fun pins s σ H Q I h => ?_⟩; refine PySem.W.methodCall_KW (pl := pl) (thn (he.run pins s σ H _ I h) fun u s1 ⟨x, H1, I1, rx, a, dx, fs, ex, ea, l, q⟩ => ?_) ht
  subst ex
  obtain rfl : u = Value.ref a := rx; refine getmeth_ok I1 ea cl hm l ?_
  exact PySem.W.callWith_K0 (first := [.ref a]) I1.kIn hm.kp (run_fnS (us := [.ref a]) (vs := [.ref a]) F hr hb (hx σ) I1 (.cons rfl .nil) q)
theorem meth_read {n : Nat} {d : List U → Mh → R U} {σ : L2.St} {H : Hp} {Q : VK} (hl : ∀ s h xs h', L s h = .ok xs h' → xs.length + 1 = n) (q : At g (Rl g) (mMeth c m d A L) (WE W σ) σ H Q) : tMethS (g.cl c) m (spM g n d) (WE W) (Vm.T g W A) (TL g W L) σ H Q := by
  refine At.seq (rel := Rl g) q fun ρ1 u s h1 vv H1 hs1 c1 r1 p1 => ?_
  cases ei : insOf c u h1 with
  | none => rw [ei] at p1; exact p1.elim
  | some nf' =>
    obtain ⟨k, fs⟩ := nf'
    rw [ei] at p1
    simp only at p1
    obtain ⟨a, dx, gs, rfl, rfl, ea, rf, qa⟩ := insOf_ok c1 r1 ei
    cases el : fs.lookup m with
    | some w => rw [el] at p1; exact p1.elim
    | none =>
      rw [el] at p1
      refine ⟨a, dx, gs, rfl, qa, Rf.look0 rf el, ρ1, s, h1, hs1, c1, ?_⟩
      cases eL : L s h1 with
      | ok us h2 =>
        rw [eL] at p1
        intro ρ2 vs H2 e2 c2 r2
        exact ⟨by rw [List.length_cons, ← Paired.length r2]; exact hl _ _ _ _ eL, ρ2, .loc k :: us, h2, .cons (Rl.mono e2 r1) r2, c2, Post.mono e2 p1⟩
      | ex cc ff h2 => rw [eL] at p1; exact p1
      | stuck => rw [eL] at p1; exact p1.elim
theorem e_meth {k : Nat} {fm : Addr} {fd : FuncData} {ps : List Str} {n : Nat} {d : List U → Mh → R U} (T : Cls X.K (g.cl c)) (hm : Meth X.K (g.cl c) m fm) (F : FnOk X.prog X.w X.K X.mg X.base (L2.CX X.prog X.w) k fm fd ps (spM g n d)) (hr : Room k X.A) (hb : Binds X.K fd ps []) (tk : Takes X W) (he : PE X o (Vm.T g W A)) (ha : PA X (e :: es) (TL g W L))
    (hl : ∀ s h xs h', L s h = .ok xs h' → xs.length + 1 = n) {pl : Sem Bool} (hst : starEach (e :: es) X.env = (false, eval e X.env) :: starEach es X.env := by rfl) (hpl : (backTo pos (starEach es X.env)).any (·.1) = false := by rfl) (ht : eval (.Call (.Attribute o m apos) (e :: es) [] pos) X.env = (do
      let ov ← eval o X.env
      standAt apos.atName
      let (f, first) ← holding [ov] (getMethod ov m pl); callWith pos f first (backTo pos (starEach (e :: es) X.env)) (backToKw pos (keywordEach [] X.env))) := by rfl) :
    PE X (.Call (.Attribute o m apos) (e :: es) [] pos) (Vm.T g W (mMeth c m d A L)) :=
  PE.im (pe_methT he T hm F hr hb (fun σ => passAt tk σ) ha hst hpl ht) fun σ H Q q => meth_read hl q
theorem e_meth0 {k : Nat} {fm : Addr} {fd : FuncData} {ps : List Str} {n : Nat} {d : List U → Mh → R U} (T : Cls X.K (g.cl c)) (hm : Meth X.K (g.cl c) m fm) (F : FnOk X.prog X.w X.K X.mg X.base (L2.CX X.prog X.w) k fm fd ps (spM g n d)) (hr : Room k X.A) (hb : Binds X.K fd ps []) (tk : Takes X W) (he : PE X o (Vm.T g W A))
    (hl : 1 = n) {pl : Sem Bool} (ht : eval (.Call (.Attribute o m apos) [] [] pos) X.env = (do
      let ov ← eval o X.env
      standAt apos.atName
      let (f, first) ← holding [ov] (getMethod ov m pl); callWith pos f first (backTo pos (starEach [] X.env)) (backToKw pos (keywordEach [] X.env))) := by rfl) :
    PE X (.Call (.Attribute o m apos) [] [] pos) (Vm.T g W (mMeth c m d A lN)) := by
  refine PE.im (pe_methT0 he T hm F hr hb (fun σ => passAt tk σ) ht) fun σ H Q q => ?_
  refine At.seq (rel := Rl g) q fun ρ1 u s h1 vv H1 hs1 c1 r1 p1 => ?_
  cases ei : insOf c u h1 with
  | none => rw [ei] at p1; exact p1.elim
  | some nf' =>
    obtain ⟨kk, fs⟩ := nf'
    rw [ei] at p1
    simp only at p1
    obtain ⟨a, dx, gs, rfl, rfl, ea, rf, qa⟩ := insOf_ok c1 r1 ei
    cases el : fs.lookup m with
    | some w => rw [el] at p1; exact p1.elim
    | none =>
      rw [el] at p1
      exact ⟨a, dx, gs, rfl, qa, Rf.look0 rf el, hl, ρ1, [.loc kk], h1, .cons r1 .nil, c1, p1⟩
/-- e.f, a property -/
theorem e_prop {k : Nat} {pa fm : Addr} {fd : FuncData} {ps : List Str} {n : Nat} {d : List U → Mh → R U} (T : Cls X.K (g.cl c)) (hp : PropOf X.K (g.cl c) f pa fm) (F : FnOk X.prog X.w X.K X.mg X.base (L2.CX X.prog X.w) k fm fd ps (spM g n d)) (hr : Room (k + 1) X.A) (hb : Binds X.K fd ps []) (hn : 1 = n) (he : PE X e (Vm.T g W A)) (hab : attributeBase e f X.env (eval e X.env) = eval e X.env := by rfl) :
    PE X (.Attribute e f pos) (Vm.T g W (mProp c d A)) := by
  refine PE.im (pe_prop (X := X) (E := E0) (dvs := []) (ds := []) he T hp F hr hb .nil (fun pins σ H s er s' I h => passL (X := X.nox) pins σ H s er s' I h) hab) fun σ H Q q => At.seq (rel := Rl g) q fun ρ1 u s h1 vv H1 hs1 c1 r1 p1 => ?_
  cases ei : insOf c u h1 with
  | none => rw [ei] at p1; exact p1.elim
  | some nf' =>
    obtain ⟨kk, fs⟩ := nf'
    rw [ei] at p1
    simp only at p1
    obtain ⟨a, dx, gs, rfl, rfl, ea, rf, qa⟩ := insOf_ok c1 r1 ei
    refine ⟨a, dx, gs, rfl, qa, hn, ρ1, [.loc kk], h1, .cons r1 .nil, c1, ?_⟩
    cases ed : d [.loc kk] h1 with
    | ok w h2 => rw [ed] at p1; exact p1
    | ex cc ff h2 => rw [ed] at p1; exact p1.elim
    | stuck => rw [ed] at p1; exact p1.elim
/-! ### C(..) -/
def tMakeS (C : Addr) (sp : Sp) (E : L2.St → XK) (t : TA) : TE := fun σ H Q => t σ H fun vs H1 => ∀ x dx, H1 x = none → H1 dx = none → dx ≠ x →
  sp (.ref x :: vs) (upd (upd H1 dx (.own x)) x (.ins C dx [])) (fun v H2 => v = .non ∧ Q (.ref x) H2) (E σ)
theorem pe_makeT {CX : CXT} {k : Nat} {C fI : Addr} {fd : FuncData} {ps : List Str} {sp : Sp} {E : L2.St → XK} {t : TA} (M : Mk X.K C fI) (F : FnOk X.prog X.w X.K X.mg X.base CX k fI fd ps sp) (hr : Room (k + 1) X.A) (hg : Gl X x) (hm : X.mg x = some (.ref C)) (hb : Binds X.K fd ps []) (hx : ∀ σ, PassesAt CX X σ (E σ)) (ha : PA X (e :: es) t) (hdb : (x == ("__debug__" : Str)) = false := by decide) (he : starEach (e :: es) X.env = (false, eval e X.env) :: starEach es X.env := by rfl) (hpl : (backTo pos (starEach es X.env)).any (·.1) = false := by rfl) :
    PE X (.Call (.Name x p) (e :: es) [] pos) (tMakeS C sp E t) := by
  refine ⟨fun pins s σ H Q I h => ?_⟩; refine wpAny_Call_Name_kw (ld_glob I hg hm ?_ hdb)
  refine PySem.W.callWith_K (h₀ := X.base) I.ok.mod.kin M.kp (thn (ha.run pos pins s σ H _ I h) fun us s1 ⟨vs, H1, I1, r, h⟩ => ⟨I1.kIn, ?_⟩) he hpl
  show wpAny _ _ (call (.ref C) us) _ _ _; have hq := h (s1.heap.objs.size + 1) s1.heap.objs.size (I1.hok.fresh (Nat.le_succ _)) (I1.hok.fresh (Nat.le_refl _)) (Nat.ne_of_lt (Nat.lt_succ_self _))
  have I2 := Inv.made (C := C) I1
  have r2 : Vals (V.ref (s1.heap.objs.size + 1) :: vs) (Value.ref (s1.heap.objs.size + 1) :: us) := .cons rfl r
  have hl : (Value.ref (s1.heap.objs.size + 1) :: us ++ []).length = ps.length := by
    have e := r2.length
    rw [F.len _ _ _ _ hq] at e
    rw [List.append_nil]
    exact e.symm
  have b := hb { heap := _, gens := _, drawn := _, toks := _, os := _ } (Value.ref (s1.heap.objs.size + 1) :: us) I2.kIn hl
  rw [List.append_nil] at b
  refine wpAny_call (make_map (f := fI) I1.kIn M.makes M.init (beq_iff_eq.mp M.fn) (codeAny_mono (F.run _ X.stack _ _ ⟨Value.ref (s1.heap.objs.size + 1) :: us, []⟩ (Value.ref (s1.heap.objs.size + 1) :: us) _ _ (E σ) (hr.make C us [])
    (I2.env0.make C us []) b r2 hq) fun r s' hq' => ?_))
  cases r with
  | error e => exact hx σ pins _ _ e s' I2 hq'
  | ok fl =>
    cases fl with
    | ret u =>
      obtain ⟨v, H', I3, rv, ev, q3⟩ := I2.after hq'; subst ev
      exact ⟨rv, ⟨V.ref (s1.heap.objs.size + 1), H', I3, rfl, q3⟩⟩
    | next => exact hq'.elim
    | brk => exact False.elim hq'
    | cont => exact hq'.elim
theorem e_make {k : Nat} {fI : Addr} {fd : FuncData} {ps : List Str} {n : Nat} {d : List U → Mh → R U} (M : Mk X.K (g.cl c) fI) (F : FnOk X.prog X.w X.K X.mg X.base (L2.CX X.prog X.w) k fI fd ps (spM g n d)) (hr : Room (k + 1) X.A) (hg : Gl X x) (hm : X.mg x = some (.ref (g.cl c))) (hb : Binds X.K fd ps []) (tk : Takes X W)
    (ha : PA X (e :: es) (TL g W L)) (hl : ∀ s h xs h', L s h = .ok xs h' → xs.length + 1 = n) (hdb : (x == ("__debug__" : Str)) = false := by decide) (he : starEach (e :: es) X.env = (false, eval e X.env) :: starEach es X.env := by rfl) (hpl : (backTo pos (starEach es X.env)).any (·.1) = false := by rfl) :
    PE X (.Call (.Name x p) (e :: es) [] pos) (Vm.T g W (mMake c d L)) := by
  refine PE.im (pe_makeT M F hr hg hm hb (fun σ => passAt tk σ) ha hdb he hpl) fun σ H Q q => ?_
  obtain ⟨ρ, s, h, hs, cs, p⟩ := q
  refine ⟨ρ, s, h, hs, cs, ?_⟩
  unfold mMake at p
  cases eL : L s h with
  | ok us h1 =>
    rw [eL] at p
    intro ρ1 vs H1 e1 c1 r1 x dx hx hdx hne
    have c2 : Cs g ρ1 h1 (upd H1 dx (.own x)) := c1.skip hdx
    have hx2 : upd H1 dx (.own x) x = none := by rw [upd_ne hne.symm]; exact hx
    have c3 : Cs g (ρ1.snoc x) (h1 ++ [.ins c []]) (upd (upd H1 dx (.own x)) x (.ins (g.cl c) dx [])) := c2.new hx2 ⟨dx, [], .nil, upd_same⟩
    have ex : (ρ1.snoc x).as[h1.length]? = some x := new_get ρ1 x c1.len
    refine ⟨by rw [List.length_cons, ← Paired.length r1]; exact hl _ _ _ _ eL, (ρ1.snoc x), .loc h1.length :: us, _, .cons ⟨x, ex, rfl⟩ (Rls.mono (pre_snoc _ _) r1), c3, ?_⟩
    simp only [R.bind] at p
    cases ed : d (.loc h1.length :: us) (h1 ++ [.ins c []]) with
    | ok w h2 =>
      rw [ed] at p
      simp only at p
      cases w with
      | non =>
        intro ρ4 v4 H4 e4 c4 r4
        exact ⟨r4, p ρ4 (.ref x) H4 ((e1.trans (pre_snoc _ _)).trans e4) c4 ⟨x, pre_get e4 ex, rfl⟩⟩
      | _ => exact p.elim
    | ex cc ff h2 =>
      rw [ed] at p
      exact Xp.mono (e1.trans (pre_snoc _ _)) p
    | stuck => rw [ed] at p; exact p.elim
  | ex cc ff h1 => rw [eL] at p; exact p
  | stuck => rw [eL] at p; exact p.elim
end
/-! ### the law's own entry -/
theorem scr_of {g : Gc} {H : Hp} (h1 : Only H) (h2 : SqL g.K H g.sa (g.ns.map V.int)) : Scr g H := by
  rcases h2 with (e | ⟨o, e⟩) | k
  · rcases h1 g.sa with z | ⟨o, xs, z⟩
    · rw [z] at e; cases e
    · rw [z] at e; cases e
  · exact .inl ⟨o, e⟩
  · exact .inr k
def Wd.nil : Wd := ⟨[], fun _ => none, fun _ => none⟩
theorem Cs.start {cl : Nat → Addr} {K : PySem.W.Frag} {a : Addr} {ns : List Int} {H : Hp} (hO : Only H) (hS : SqL K H a (ns.map V.int)) : Cs ⟨cl, K, a, ns, none⟩ Wd.nil [] H :=
  ⟨rfl, fun n o b e => (by simp at e), List.nodup_nil, scr_of hO hS, fun _ _ _ e => (nomatch e), fun _ _ q => (nomatch q), fun _ _ q => (nomatch q), fun n o b e => (by simp at e), fun _ _ _ q => (nomatch q)⟩
def spLaw (K : PySem.W.Frag) : Sp := fun vs H Q _ => ∃ (a : Addr) (ns : List Int), vs = [.ref a] ∧ ns.length ≤ 63 ∧ Only H ∧ SqL K H a (ns.map V.int) ∧ ∀ H', Q (.bl true) H'
/-- the mirror's answer is True -/
def Yes (r : R U) : Prop := match r with
  | .ok (.bl true) _ => True
  | _ => False
theorem law_ok {P : Program} {w : World} {K : PySem.W.Frag} {mg : Str → Option Value} {base : Heap} {k : Nat} {f : Addr} {fd : FuncData} {d : List Int → List U → Mh → R U} (cl : Nat → Addr)
    (F : ∀ g : Gc, g.K = K → g.cl = cl → g.exn = none → FnOk P w K mg base (L2.CX P w) k f fd ["script"] (spM g 1 (d g.ns)))
    (y : ∀ ns : List Int, ns.length ≤ 63 → Yes (d ns [.scr] [])) : FnOk P w K mg base (L2.CX P w) k f fd ["script"] (spLaw K) := by
  refine ⟨fun vs H Q E h => ?_, fun A outer s H args us vs Q E hr he hb hv h => ?_⟩
  · obtain ⟨a, ns, rfl, _⟩ := h
    rfl
  · obtain ⟨a, ns, rfl, hl, hO, hS, q⟩ := h
    refine (F ⟨cl, K, a, ns, none⟩ rfl rfl rfl).run A outer s H args us [.ref a] Q E hr he hb hv ⟨rfl, Wd.nil, [.scr], [], .cons rfl .nil, Cs.start hO hS, ?_⟩
    have yy := y ns hl
    show Post _ _ _ (d ns [.scr] []) Q E
    cases e : d ns [.scr] [] with
    | ok u h =>
      rw [e] at yy
      cases u with
      | bl b =>
        cases b with
        | true =>
          intro ρ' v H' _ _ r
          have r' : v = .bl true := r
          subst r'
          exact q H'
        | false => exact yy.elim
      | _ => exact yy.elim
    | ex c f h => rw [e] at yy; exact yy.elim
    | stuck => rw [e] at yy; exact yy.elim
theorem walk_law {l : PySem.W.OpenLaw} {q : Program} {loose : List Str} {XP : (Str → Option Value) → Heap → Prop} {YP : World → Heap → Prop} {d : DefRec} {K : Params → PySem.W.Frag} {k : Nat} (hn : l.most = some 63) (hdf : d.params.defaults = []) (hr : Room k callerA) (hY : ∀ (w : World) (h : Heap), YP w h → (K w.params).In h) (F : ∀ (w : World) (mg : Str → Option Value) (fa : Addr) (h : Heap), (K w.params).In h → h.Ns mainGlobals mg → mg d.name = some (.ref fa) →
      ∃ fd : FuncData, (∀ (s : Shared) (u : Value), BindsTo s fd ⟨[u], []⟩ [("script", u)]) ∧ ∀ base : Heap, (K w.params).In base → base.Ns mainGlobals mg → FnOk l.prog w (K w.params) mg base (L2.CX l.prog w) k fa fd ["script"] (spLaw (K w.params))) : PySem.W.WalkO q loose XP YP l.row.toRowW d [] (fun f vs => PySem.call f vs) :=
  L2.walk_of (n := 63) (k := k) (x := "script") (CX := fun w => L2.CX l.prog w) (sp := fun w => spLaw (K w.params)) hn (by decide) hdf hr hY F (fun _ _ a ns hl hO hS => ⟨a, ns, rfl, hl, hO, hS, fun _ => rfl⟩) fun w H s e s' z => by
    obtain ⟨_, _, _, _, _, _, _, _, _, _, _, _, z⟩ := z
    exact z.elim
end Vm

set_option Elab.async false
set_option linter.all false
set_option maxRecDepth 100000
set_option maxHeartbeats 4100000
namespace Vm
open PySem PySem.Spec PyProof.Rows L2 PySem.W PySem.Calls PySem.HandSPX
/-! ### an own exception class called, also by name -/
section
variable {M : Model} {prog : Program} {w : World} {A : Around} {E : Value → Shared → Prop} {R : Result → Shared → Prop} {s : Shared} {kw : List (Str × Value)}
variable {nm q : Str} {C N : Addr} {bs bm : List Value} {hdct : Bool} {sn : List Str} {sub : List Value} {ab : Bool} {col : Option Bool} {dd : Option Addr} {k0 k1 k2 k3 k5 : Option Value} {B newId initId : String} {bB : List Value}
theorem chkN (F : ExcBaseFacts B newId initId bB) (hT : ∀ Y : String, bm.contains (.type Y) = bB.contains (.type Y)) {us : List Value} {Q : Unit → Shared → Prop} (hC : s.heap.get? C = some (excClassObj nm q C N bs bm hdct sn sub ab col dd k0 k1 k2 k3 k5 newId)) (z : Q () s) :
    wpAny M A (checkBuiltinCall newId ⟨.ref C :: us, kw⟩) Q E s := by
  obtain ⟨h, g, d, t, os⟩ := s
  have c1 : (Value.ref C :: bm).contains (.type B) = true := (List.contains_cons ..).trans (by rw [hT, F.hasB] <;> rfl)
  have c2 := F.noStar; simp only [checkBuiltinCall, F.newKind, F.newSplit, F.newRow]
  repeat (first | refine wpAny_loadPart_at hC ?_ | (refine wpAny_isSubtype_exc hC ?_; rw [c1]) | refine wpAny_staticBase_exc hC ?_ | refine wpAny_madeBy_exc hC ?_ | simp only [bne_self_eq_false, Bool.false_eq_true, if_false] | wp_step)
  exact z
theorem runN (F : ExcBaseFacts B newId initId bB) (hT : ∀ Y : String, bm.contains (.type Y) = bB.contains (.type Y)) {us : List Value} (hC : s.heap.get? C = some (excClassObj nm q C N bs bm hdct sn sub ab col dd k0 k1 k2 k3 k5 newId)) (hz : us.length ≤ sizeLine)
    (z : R (.ok (.ret (.ref (s.heap.objs.size + 1)))) { s with heap := (s.heap.push (kdv_tup us)).push (excO C s.heap.objs.size) }) : codeAny (model prog w) A (.builtin newId ⟨.ref C :: us, kw⟩) R s := by
  obtain ⟨h, g, d, t, os⟩ := s
  have c0 := F.ends
  have c1 : (Value.ref C :: bm).contains (.type B) = true := (List.contains_cons ..).trans (by rw [hT, F.hasB] <;> rfl)
  have c2 : (Value.ref C :: bm).contains (.type "AttributeError") = false := (List.contains_cons ..).trans (by rw [hT, F.noAttr] <;> rfl)
  have c3 : (Value.ref C :: bm).contains (.type "NameError") = false := (List.contains_cons ..).trans (by rw [hT, F.noName] <;> rfl)
  refine codeAny_builtinAt F.entry (PySem.wpAt_bind ?_)
  show PySem.wpAt _ _ _ (stack >>= _) _ _ _
  refine PySem.wpAt_bind (PySem.wpAt_stack fun p below => PySem.wpAt_of_wpAny ?_)
  wp_walk
  refine PySem.wpAt_of_wpAny ?_
  rw [F.owner]
  repeat (first | with_reducible refine wpAny_madeHere_exc F.canon hC ?_ | with_reducible refine wpAny_loadPart_at hC ?_ | (with_reducible refine wpAny_isSubtype_exc hC ?_; first | rw [c1] | rw [c2] | rw [c3]) | wp_step)
  show R _ _
  rw [Heap.size_push]
  exact z
theorem chkT {us : List Value} {Q : Unit → Shared → Prop} (hC : s.heap.get? C = some (excClassObj nm q C N bs bm hdct sn sub ab col dd k0 k1 k2 k3 k5 newId)) (z : Q () s) : wpAny M A (checkBuiltinCall "type.__call__" ⟨.ref C :: us, kw⟩) Q E s := by
  obtain ⟨h, g, d, t, os⟩ := s
  exact check_slot tc_kind tc_split ((Looks.ld hC).andThen (Looks.of_pure tc_sub)) (tc_args _ _ _) z
/-- what the class's own __init__ gives back -/
def InitK (p : Addr) (R : Result → Shared → Prop) : Result → Shared → Prop := fun r s' => match r with
  | .ok (.ret v) => v = .none ∧ R (.ok (.ret (.ref p))) s'
  | .ok _ => False
  | .error e => R (.error e) s'
theorem callC (F : ExcBaseFacts B newId initId bB) (hT : ∀ Y : String, bm.contains (.type Y) = bB.contains (.type Y)) {us : List Value} {fI : Addr} (hC : s.heap.get? C = some (excClassObj nm q C N bs bm hdct sn sub ab col dd k0 k1 k2 k3 k5 newId))
    (hi : W.Looks (model prog w) s.heap (typeLookup (.ref C) "__init__") (some (.ref fI))) (hb : ∀ self, W.Looks (model prog w) s.heap (bindSpecial (.ref fI) self) (.ref fI, [self])) (hz : us.length ≤ sizeLine)
    (z : codeAny (model prog w) (A.under (.builtin "type.__call__" ⟨.ref C :: us, kw⟩)) (.call (.ref fI) ⟨.ref (s.heap.objs.size + 1) :: us, kw⟩) (InitK (s.heap.objs.size + 1) R) { s with heap := (s.heap.push (kdv_tup us)).push (excO C s.heap.objs.size) }) :
    codeAny (model prog w) A (.call (.ref C) ⟨us, kw⟩) R s := by
  obtain ⟨h, g, d, t, os⟩ := s
  have f1 := tc_lookup
  have f2 := tc_bind (.ref C)
  have ty : (⟨h, g, d, t, os⟩ : Shared).TypeIs (.ref C) "type" := ⟨_, hC, rfl⟩
  refine codeAny_of_tree ?_; show wpAny _ _ (callAny (.ref C) _) _ _ _
  repeat any_goals first | assumption | with_reducible refine wpAny_loadPart_at hC ?_ | wp_step
  refine ⟨rfl, codeAny_call_builtin_at (Code.quiet_builtin _ (by decide +kernel)) entry_typeCall (chkT hC ?_)⟩
  repeat first | with_reducible refine wpAny_loadPart_at hC ?_ | with_reducible refine wpAny_madeBy_exc hC ?_ | wp_step
  refine codeAny_call_builtin_code (Code.quiet_builtin _ F.quiet) (chkN F hT hC (runN F hT hC hz ?_))
  change wpAny _ _ _ _ _ ⟨(h.push (kdv_tup us)).push (excO C h.objs.size), g, d, t, os⟩
  have up : ∀ b o, h.get? b = some o → ((h.push (kdv_tup us)).push (excO C h.objs.size)).get? b = some o := fun b o e => Heap.get?_push_of_some _ (Heap.get?_push_of_some _ e)
  have hC1 := up _ _ hC
  have he : ((h.push (kdv_tup us)).push (excO C h.objs.size)).get? (h.objs.size + 1) = some (excO C h.objs.size) := by heap_get
  have own : (Value.ref C :: bm).contains (.ref C) = true := by simp
  have i1 := hi.keeps up
  have b1 := (hb (.ref (h.objs.size + 1))).keeps up
  unfold isInstance
  repeat (first | with_reducible refine wpAny_loadPart_at he ?_ | (with_reducible refine wpAny_isSubtype_exc hC1 ?_; rw [own]) | wp_step)
  show wpAny _ _ (typeLookup (.ref C) _) _ _ _; refine i1.at (wpAny_holding (wpAny_bind (b1.at (wpAny_bind (wpAny_call (codeAny_mono z fun r s' y => ?_))))))
  rcases r with e | (v | _ | _ | _) <;> first | exact y | exact y.elim | skip
  obtain ⟨rfl, y⟩ := y
  first
    | exact wpAny_pure (wpAny_pure y)
    | (wp_walk; exact y)
end
end Vm

set_option Elab.async false
set_option linter.all false
set_option maxRecDepth 100000
set_option maxHeartbeats 4100000
namespace Vm
open L2 PyProof.Rows PySem PySem.Spec
/-! ### repr -/
/-- r stands for a wish on data read deep -/
def rRepr (K : PySem.W.Frag) : List V → Hp → VK → Prop := fun xs H Q => ∃ v d, xs = [v] ∧ Dp K H v d ∧ d.hasDict = false ∧ d.showable = true ∧ d.shown.length ≤ sizeLine ∧ d.depth ≤ 60 ∧ Q (.str d.shown) H
theorem call_reprD {X : Cx} (hg : X.A.guards = some []) (hu : X.A.units + 65 < cLine) : CallR X (.builtin "repr") (rRepr X.K) := by
  intro pins s σ H xs us Q I r ⟨v, d, ex, hd, nd, sh, sz, dp, q⟩
  subst ex
  obtain ⟨u, rfl, rv⟩ := vals1 r
  obtain ⟨as, rd⟩ := Dp.reads I d v u hd rv
  have fin : ∀ {t : Tok} {k : Nat}, EP X pins σ Q (.str d.shown t) { s with toks := k } := fun {t k} => ⟨.str d.shown, H, I.tok k, ⟨t, rfl⟩, q⟩
  cases rd with
  | none => exact PySem.P.repr_of_none fin
  | bool b =>
    refine PySem.P.repr_of_bool ?_
    cases b
    · exact fin
    · exact fin
  | int i t => exact PySem.P.repr_of_int (of_decide_eq_true sh) fin
  | str x t => exact PySem.P.repr_of_str fin sz
  | list e1 e2 e3 e4 => exact repr_of_reads' (.list e1 e2 e3 e4) sh (PyData.noDict_hsm nd) hg (by omega) (fun _ _ e => e) (fun h' u tk hk => ⟨.str _, H, I.kept (t' := tk) hk, ⟨u, rfl⟩, q⟩) sz
  | tuple e1 e2 e3 e4 => exact repr_of_reads' (.tuple e1 e2 e3 e4) sh (PyData.noDict_hsm nd) hg (by omega) (fun _ _ e => e) (fun h' u tk hk => ⟨.str _, H, I.kept (t' := tk) hk, ⟨u, rfl⟩, q⟩) sz
  | dict e1 e2 e3 e4 e5 => exact absurd nd (by unfold PyData.hasDict; decide)
def fRepr : List U → Mh → R U := fun us h => match us with
  | [x] => match rd h deep x with
    | some d => if !d.hasDict && d.showable && decide (d.shown.length ≤ 100000) && decide (d.depth ≤ 60) then .ok (.str d.shown) h else .stuck
    | none => .stuck
  | _ => .stuck
theorem s_repr {g : Gc} {K : PySem.W.Frag} (hK : K = g.K := by assumption) : SL g fRepr (rRepr K) := fun E ρ xs vs h H Q r cs p => by
  subst hK
  unfold fRepr at p
  split at p
  · rename_i x
    obtain ⟨v, rfl, r1⟩ := one_of r
    cases e : rd h deep x with
    | none => rw [e] at p; exact p.elim
    | some d =>
      rw [e] at p
      simp only at p
      split at p
      · rename_i c
        simp only [Bool.and_eq_true, Bool.not_eq_true', decide_eq_true_eq] at c
        exact ⟨v, d, rfl, rd_dp cs _ _ _ _ r1 e, c.1.1.1, c.1.1.2, big_line c.1.2, c.2, Post.here (rel := Rl g) p cs rfl⟩
      · exact p.elim
  · exact p.elim
/-! ### exceptions as values -/
section
variable {X : Cx} {g : Gc} {W : WX} {A : Me} {e : Expr} {pos : Pos} {pins : List (Addr × Obj)} {σ : L2.St} {H : Hp} {s : Shared}
/-- a class with its own __init__ of one field, called at what stands -/
theorem exn_run {C fI : Addr} {f : Str} {fd : FuncData} {k : Nat} {us : List Value} {kw : List (Str × Value)} {y : V} {u : Value} {Q : VK} (T : OexC X.K C) (nf : PySem.W.findIn X.K (.ref C) f = some none) (iC : PySem.W.findIn X.K (.ref C) "__init__" = some (some (.ref fI))) (tI : PySem.W.typeIn X.K (.ref fI) = some (.type "function"))
    (F : FnOk X.prog X.w X.K X.mg X.base (L2.CX X.prog X.w) k fI fd ["self", f] (spI X.K f)) (hr : Room (k + 1) X.A) (hx : Passes (L2.CX X.prog X.w) X (fun _ _ _ => False)) (hz : us.length ≤ sizeLine)
    (bt : ∀ (s : Shared) (p : Value), X.K.In s.heap → BindsTo s fd ⟨p :: us, kw⟩ ((["self", f] : List Str).zip [p, u])) (I : Inv X pins σ H s) (r : RelV y u) (q : ∀ a dx, H a = none → H dx = none → dx ≠ a → Q (.ref a) (upd (upd H dx (exd dx [(f, y)])) a (exo a C (some dx)))) :
    wpAny (model X.prog X.w) X.A (call (.ref C) us kw) (EP X pins σ Q) X.xe s := by
  obtain ⟨nm, qn, N, bs, bm, sn, sub, ab, col, dd, k0, k1, k2, k3, k5, hC, hbm⟩ := T.cls
  obtain ⟨hp, g0, d0, t0, o0⟩ := s
  have sz : hp.objs.size ≤ hp.objs.size + 1 := Nat.le_succ _
  have ha : H (hp.objs.size + 1) = none := I.hok.fresh sz
  have up : ∀ b o, hp.get? b = some o → ((hp.push (PySem.W.kdv_tup us)).push (PySem.HandSPX.excO C hp.objs.size)).get? b = some o := fun b o e => Heap.get?_push_of_some _ (Heap.get?_push_of_some _ e)
  have he : ((hp.push (PySem.W.kdv_tup us)).push (PySem.HandSPX.excO C hp.objs.size)).get? (hp.objs.size + 1) = some (PySem.HandSPX.excO C hp.objs.size) := by heap_get
  have I2 := I.laid (t' := t0) (a := hp.objs.size + 1) (o := exo (hp.objs.size + 1) C none) up sz (exo_ok he)
  have hs : spI X.K f [.ref (hp.objs.size + 1), y] (upd H (hp.objs.size + 1) (exo (hp.objs.size + 1) C none)) (fun v H' => v = .non ∧ Q (.ref (hp.objs.size + 1)) H') (fun _ _ _ => False) := by
    refine ⟨_, C, y, rfl, T, nf, upd_same, fun dx n ne => ⟨rfl, ?_⟩⟩
    rw [upd_ne ne] at n
    have z := q _ dx ha n ne
    have e : upd (upd (upd H (hp.objs.size + 1) (exo (hp.objs.size + 1) C none)) dx (exd dx [(f, y)])) (hp.objs.size + 1) (exo (hp.objs.size + 1) C (some dx)) = upd (upd H dx (exd dx [(f, y)])) (hp.objs.size + 1) (exo (hp.objs.size + 1) C (some dx)) := by
      funext b
      by_cases h1 : b = hp.objs.size + 1
      · rw [h1, upd_same, upd_same]
      · by_cases h2 : b = dx
        · rw [h2, upd_ne ne, upd_ne ne, upd_same, upd_same]
        · rw [upd_ne h1, upd_ne h1, upd_ne h2, upd_ne h2, upd_ne h1]
    rw [e]
    exact z
  refine wpAny_call (callC PySem.F.excBase_ValueError (fun Y => PySem.HandSPX.refsVE_contains Y bm hbm) (I.kIn _ _ hC) (PySem.W.looks_findIn I.kIn iC) (fun self => PySem.W.bind_fn I.kIn self tI) hz ?_)
  refine codeAny_mono (F.run _ X.stack _ _ ⟨Value.ref (hp.objs.size + 1) :: us, kw⟩ [Value.ref (hp.objs.size + 1), u] [.ref (hp.objs.size + 1), y] _ _ (hr.make C us kw) (I2.env0.make C us kw) (bt _ _ I2.kIn) (.cons rfl (.cons r .nil)) hs) fun r s' z => ?_
  cases r with
  | error er => exact hx pins σ _ _ er s' I2 z
  | ok fl =>
    cases fl with
    | ret w =>
      obtain ⟨v, H', J, rv, ev, q3⟩ := I2.after z
      subst ev
      exact ⟨rv, ⟨V.ref (hp.objs.size + 1), H', J, rfl, q3⟩⟩
    | next => exact False.elim z
    | brk => exact False.elim z
    | cont => exact False.elim z
end
end Vm

set_option Elab.async false
set_option linter.all false
set_option maxRecDepth 100000
set_option maxHeartbeats 4100000
namespace Vm
open L2 PyProof.Rows PySem PySem.Spec
section
variable {X : Cx} {g : Gc} {W : WX} {A : Me} {e : Expr} {pos : Pos} {pins : List (Addr × Obj)} {σ : L2.St} {H : Hp} {s : Shared}
/-- what it comes to -/
def exnW (C : Addr) (f : Str) (Q : VK) (y : V) (H1 : Hp) : Prop := ∀ a dx, H1 a = none → H1 dx = none → dx ≠ a → Q (.ref a) (upd (upd H1 dx (exd dx [(f, y)])) a (exo a C (some dx)))
def exnWs (C : Addr) (f : Str) (Q : VK) : List V → Hp → Prop := fun vs H1 => match vs with
  | [y] => exnW C f Q y H1
  | _ => False
theorem exnWs_one {C : Addr} {f : Str} {Q : VK} {vs : List V} {H1 : Hp} (q : exnWs C f Q vs H1) : ∃ y, vs = [y] ∧ exnW C f Q y H1 := by
  match vs, q with
  | [y], q => exact ⟨y, rfl, q⟩
theorem one_line : 1 ≤ sizeLine := big_line (by decide)
def tExn (C : Addr) (f : Str) (te : TE) : TE := fun σ H Q => te σ H fun y H1 => exnW C f Q y H1
theorem pe_exnP {C fI : Addr} {x f : Str} {fd : FuncData} {k : Nat} {te : TE} {p : Pos} (T : Xc1 X.K X.mg x f C fI) (F : FnOk X.prog X.w X.K X.mg X.base (L2.CX X.prog X.w) k fI fd ["self", f] (spI X.K f)) (hr : Room (k + 1) X.A) (hx : Passes (L2.CX X.prog X.w) X (fun _ _ _ => False))
    (hb : Binds X.K fd ["self", f] []) (hg : Gl X x) (ha : PE X e te) (hst : starEach [e] X.env = (false, eval e X.env) :: starEach [] X.env := by rfl) (hpl : (backTo pos (starEach ([] : List Expr) X.env)).any (·.1) = false := by rfl) (hdb : (x == ("__debug__" : Str)) = false := by decide) :
    PE X (.Call (.Name x p) [e] [] pos) (tExn C f te) := by
  refine ⟨fun pins s σ H Q I h => wpAny_Call_Name_kw (ld_glob I hg T.gC ?_ hdb)⟩
  refine PySem.W.callWith_K (h₀ := X.base) I.ok.mod.kin T.ox.kC (thn ((pa_cons ha pa_nil hst).run pos pins s σ H (exnWs C f Q) I h) fun us s1 ⟨vs, H1, I1, r, q⟩ => ⟨I1.kIn, ?_⟩) hst hpl
  obtain ⟨y, rfl, q⟩ := exnWs_one q
  obtain ⟨u, rfl, r1⟩ := vals1 r
  have bt : ∀ (s : Shared) (p : Value), X.K.In s.heap → BindsTo s fd ⟨[p, u], []⟩ ((["self", f] : List Str).zip [p, u]) := fun s p h => hb s [p, u] h rfl
  have hz : [u].length ≤ sizeLine := one_line
  exact exn_run (us := [u]) (kw := []) T.ox T.nf T.iC T.tI F hr hx hz bt I1 r1 q
end
end Vm

set_option Elab.async false
set_option linter.all false
set_option maxRecDepth 100000
set_option maxHeartbeats 4100000
namespace Vm
open L2 PyProof.Rows PySem PySem.Spec
section
variable {X : Cx} {g : Gc} {W : WX} {A : Me} {e : Expr} {pos : Pos} {pins : List (Addr × Obj)} {σ : L2.St} {H : Hp} {s : Shared}
theorem pe_exnK {C fI : Addr} {x f : Str} {fd : FuncData} {k : Nat} {te : TE} {p kp : Pos} (T : Xc1 X.K X.mg x f C fI) (F : FnOk X.prog X.w X.K X.mg X.base (L2.CX X.prog X.w) k fI fd ["self", f] (spI X.K f)) (hr : Room (k + 1) X.A) (hx : Passes (L2.CX X.prog X.w) X (fun _ _ _ => False))
    (hb : ∀ (s : Shared) (p u : Value), X.K.In s.heap → BindsTo s fd ⟨[p], [(f, u)]⟩ ((["self", f] : List Str).zip [p, u])) (hg : Gl X x) (ha : PE X e te) (hdb : (x == ("__debug__" : Str)) = false := by decide)
    (hall : (backToKw pos (keywordEach [⟨some f, e, kp⟩] X.env)).all (·.1.isSome) = true := by rfl) (hks : (backToKw pos (keywordEach [⟨some f, e, kp⟩] X.env)).filterMap (·.1) = [f] := by rfl)
    (hpl : ((backTo pos (starEach [] X.env)).any (·.1) || (backToKw pos (keywordEach [⟨some f, e, kp⟩] X.env)).any (·.1.isNone)) = false := by rfl) :
    PE X (.Call (.Name x p) [] [⟨some f, e, kp⟩] pos) (tExn C f te) := by
  refine ⟨fun pins s σ H Q I h => wpAny_Call_Name_kw (ld_glob I hg T.gC ?_ hdb)⟩
  refine PySem.W.callWith_KW0 (h₀ := X.base) I.ok.mod.kin T.ox.kC hall (thn ((pk_cons ha pk_nil).run pos pins s σ H (exnWs C f Q) I h) fun us s1 ⟨vs, H1, I1, r, q⟩ => ⟨I1.kIn, ?_⟩) hpl
  rw [hks]
  obtain ⟨y, rfl, q⟩ := exnWs_one q
  obtain ⟨u, rfl, r1⟩ := vals1 r
  have bt : ∀ (s : Shared) (p : Value), X.K.In s.heap → BindsTo s fd ⟨[p], [(f, u)]⟩ ((["self", f] : List Str).zip [p, u]) := fun s p h => hb s p u h
  have hz : ([] : List Value).length ≤ sizeLine := Nat.zero_le _
  exact exn_run (us := []) (kw := [(f, u)]) T.ox T.nf T.iC T.tI F hr hx hz bt I1 r1 q
end
end Vm

set_option Elab.async false
set_option linter.all false
set_option maxRecDepth 100000
set_option maxHeartbeats 4100000
namespace Vm
open L2 PyProof.Rows PySem PySem.Spec
section
variable {X : Cx} {g : Gc} {W : WX} {A : Me} {e : Expr} {pos : Pos} {pins : List (Addr × Obj)} {σ : L2.St} {H : Hp} {s : Shared}
/-- X(), no own __init__ -/
def tExn0 (C : Addr) : TE := fun σ H Q => ∀ a, H a = none → Q (.ref a) (upd H a (exo a C none))
theorem pe_exn0 {C : Addr} {x : Str} {p : Pos} (T : Xc0 X.K X.mg x C) (hg : Gl X x) (hdb : (x == ("__debug__" : Str)) = false := by decide) : PE X (.Call (.Name x p) [] [] pos) (tExn0 C) := by
  refine ⟨fun pins s σ H Q I h => wpAny_Call_Name_kw (ld_glob I hg T.gC (PySem.W.callWith_K0 I.kIn T.kC ?_) hdb)⟩
  show wpAny _ _ (call (.ref C) []) _ _ _
  obtain ⟨bm, N, nm, qn, bs, hdct, sn, sub, ab, col, dd, k0, k1, k2, k3, k5, mN, hC, hN, hni, Z⟩ := exc_obj I.kIn T.xP
  refine wpAny_call_exc_subT PySem.F.excBase_ValueError Z hC hN hni (fun h' a hm => ?_) (Nat.zero_le _)
  have hn : H a = none := I.hok.gone hm.new
  obtain ⟨t, ht, _, _⟩ := hm.there; exact ⟨.ref a, _, I.laidN hm.keeps hm.new hn (exo_ok ht), rfl, h a hn⟩
end
end Vm

set_option Elab.async false
set_option linter.all false
set_option maxRecDepth 100000
set_option maxHeartbeats 4100000
namespace Vm
open L2 PyProof.Rows PySem PySem.Spec
section
variable {X : Cx} {g : Gc} {W : WX} {A : Me} {e : Expr} {pos : Pos} {pins : List (Addr × Obj)} {σ : L2.St} {H : Hp} {s : Shared}
/-- mirrors -/
def mExn (c : Nat) (f : Str) (a : Me) : Me := fun s h => (a s h).bind fun u h1 => newO (.exc c [(f, u)]) h1
def mExn0 (c : Nat) : Me := fun _ h => newO (.exc c []) h
theorem exn_read {c : Nat} {f : Str} {σ : L2.St} {Q : VK} (q : At g (Rl g) (mExn c f A) (WE W σ) σ H Q) : tExn (g.cl c) f (Vm.T g W A) σ H Q := by
  refine At.seq (rel := Rl g) q fun ρ1 u s h1 y H1 hs1 c1 r1 p1 a dx ha hd hne => ?_
  have c2 : Cs g ρ1 h1 (upd H1 dx (exd dx [(f, y)])) := c1.skip hd
  have ha2 : upd H1 dx (exd dx [(f, y)]) a = none := by rw [upd_ne (Ne.symm hne)]; exact ha
  exact Post.made p1 c2 ha2 (.inr ⟨dx, [(f, y)], .cons ⟨rfl, Rl.mono (pre_snoc _ _) r1⟩ .nil, upd_same, by rw [upd_ne hne, upd_same]⟩)
theorem e_exnP {c : Nat} {fI : Addr} {x f : Str} {fd : FuncData} {k : Nat} {p : Pos} (T : Xc1 X.K X.mg x f (g.cl c) fI) (F : FnOk X.prog X.w X.K X.mg X.base (L2.CX X.prog X.w) k fI fd ["self", f] (spI X.K f)) (hr : Room (k + 1) X.A) (hx : Passes (L2.CX X.prog X.w) X (fun _ _ _ => False))
    (hb : Binds X.K fd ["self", f] []) (hg : Gl X x) (ha : PE X e (Vm.T g W A)) (hst : starEach [e] X.env = (false, eval e X.env) :: starEach [] X.env := by rfl) (hpl : (backTo pos (starEach ([] : List Expr) X.env)).any (·.1) = false := by rfl) (hdb : (x == ("__debug__" : Str)) = false := by decide) :
    PE X (.Call (.Name x p) [e] [] pos) (Vm.T g W (mExn c f A)) := PE.im (pe_exnP T F hr hx hb hg ha hst hpl hdb) fun _ _ _ q => exn_read q
theorem e_exnK {c : Nat} {fI : Addr} {x f : Str} {fd : FuncData} {k : Nat} {p kp : Pos} (T : Xc1 X.K X.mg x f (g.cl c) fI) (F : FnOk X.prog X.w X.K X.mg X.base (L2.CX X.prog X.w) k fI fd ["self", f] (spI X.K f)) (hr : Room (k + 1) X.A) (hx : Passes (L2.CX X.prog X.w) X (fun _ _ _ => False))
    (hb : ∀ (s : Shared) (p u : Value), X.K.In s.heap → BindsTo s fd ⟨[p], [(f, u)]⟩ ((["self", f] : List Str).zip [p, u])) (hg : Gl X x) (ha : PE X e (Vm.T g W A)) (hdb : (x == ("__debug__" : Str)) = false := by decide)
    (hall : (backToKw pos (keywordEach [⟨some f, e, kp⟩] X.env)).all (·.1.isSome) = true := by rfl) (hks : (backToKw pos (keywordEach [⟨some f, e, kp⟩] X.env)).filterMap (·.1) = [f] := by rfl)
    (hpl : ((backTo pos (starEach [] X.env)).any (·.1) || (backToKw pos (keywordEach [⟨some f, e, kp⟩] X.env)).any (·.1.isNone)) = false := by rfl) :
    PE X (.Call (.Name x p) [] [⟨some f, e, kp⟩] pos) (Vm.T g W (mExn c f A)) := PE.im (pe_exnK T F hr hx hb hg ha hdb hall hks hpl) fun _ _ _ q => exn_read q
theorem e_exn0 {c : Nat} {x : Str} {p : Pos} (T : Xc0 X.K X.mg x (g.cl c)) (hg : Gl X x) (hdb : (x == ("__debug__" : Str)) = false := by decide) : PE X (.Call (.Name x p) [] [] pos) (Vm.T g W (mExn0 c)) :=
  PE.im (pe_exn0 T hg hdb) fun σ H Q ⟨ρ, s, h, hs, cs, p⟩ a ha => Post.made p cs ha (.inl ⟨rfl, upd_same⟩)
end
end Vm

set_option Elab.async false
set_option linter.all false
set_option maxRecDepth 100000
set_option maxHeartbeats 4100000
namespace Vm
open L2 PyProof.Rows PySem PySem.Spec
section
variable {X : Cx} {g : Gc} {W : WX} {A : Me} {e : Expr} {pos : Pos} {ρ : Wd} {h : Mh} {H : Hp}
/-! ### fields of exceptions, isinstance of them -/
def excOf (u : U) (h : Mh) : Option (Nat × List (Str × U)) := match u with
  | .loc n => match h[n]? with
    | some (.exc c fs) => some (c, fs)
    | _ => none
  | _ => none
theorem excOf_ok {u : U} {v : V} {c : Nat} {fs : List (Str × U)} (cs : Cs g ρ h H) (r : Rl g ρ u v) (e : excOf u h = some (c, fs)) :
    ∃ a, v = .ref a ∧ ((fs = [] ∧ H a = some (exo a (g.cl c) none)) ∨ ∃ dx gs, Rf g ρ fs gs ∧ H a = some (exo a (g.cl c) (some dx)) ∧ H dx = some (exd dx gs)) := by
  cases u with
  | loc n =>
    obtain ⟨a, q, rfl⟩ := r
    simp only [excOf] at e
    split at e
    · rename_i c' fs' en
      cases e
      exact ⟨a, rfl, cs.at_ n _ a en q⟩
    · cases e
  | _ => cases e
def tExnF (K : PySem.W.Frag) (n : Str) (te : TE) : TE := fun σ H Q => te σ H fun x H1 => ∃ (a C dx : Addr) (fs : List (Str × V)) (v : V), x = .ref a ∧ XfC K C ∧ PySem.W.findIn K (.ref C) n = some none ∧ H1 a = some (exo a C (some dx)) ∧ H1 dx = some (exd dx fs) ∧ fs.lookup n = some v ∧ Q v H1
theorem pe_exnF {n : Str} {te : TE} (he : PE X e te) (hb : attributeBase e n X.env (eval e X.env) = eval e X.env := by rfl) : PE X (.Attribute e n pos) (tExnF X.K n te) := by
  refine ⟨fun pins s σ H Q I h => attr_of hb (thn (he.run pins s σ H _ I h) fun u s1 hh => ?_)⟩
  obtain ⟨x, H1, I1, rx, a, C, dx, fs, v, rfl, T, hno, ea, ed, l, q⟩ := hh
  obtain rfl : u = Value.ref a := rx; obtain ⟨t1, ho⟩ := exo_at I1.hok ea
  obtain ⟨mA, hns, hr⟩ := exd_at I1.hok ed
  obtain ⟨od, hd, hl⟩ := lookIn_ns hns
  obtain ⟨w, hw, rw'⟩ := RelO.some_of (v := v) (o := mA n) (by rw [← l]; exact hr n)
  have J : PySem.W.InstAt s1.heap a { cls := .ref C, dict := some dx, data := .fields #[.ref t1, .none, .none, .none, .bool false, .none] } C (some od) := ⟨ho, rfl, rfl, hd⟩
  exact PySem.HandSPX.exc_get I1.kIn J T.ga T.gg T.exC (PySem.W.findObj_own T.hdC hno rfl (by rw [hl, hw])) (handed_of rw') ⟨v, H1, I1.tok _, rw', q⟩
/-- ok: the classes whose instances may be asked -/
def mExnF (ok : Nat → Bool) (n : Str) (a : Me) : Me := fun s h => (a s h).bind fun u h1 => match excOf u h1 with
  | some (c, fs) => if ok c then (match fs.lookup n with | some w => .ok w h1 | none => .stuck) else .stuck
  | none => .stuck
theorem e_exnF {ok : Nat → Bool} {n : Str} (T : ∀ c, ok c = true → XfC X.K (g.cl c) ∧ PySem.W.findIn X.K (.ref (g.cl c)) n = some none) (he : PE X e (Vm.T g W A)) (hb : attributeBase e n X.env (eval e X.env) = eval e X.env := by rfl) :
    PE X (.Attribute e n pos) (Vm.T g W (mExnF ok n A)) := by
  refine PE.im (pe_exnF he hb) fun σ H Q q => At.seq (rel := Rl g) q fun ρ1 u s h1 v H1 hs1 c1 r1 p1 => ?_
  cases ee : excOf u h1 with
  | none => rw [ee] at p1; exact p1.elim
  | some cf =>
    obtain ⟨c, fs⟩ := cf
    rw [ee] at p1
    simp only at p1
    obtain ⟨a, rfl, z⟩ := excOf_ok c1 r1 ee
    cases hk : ok c with
    | false => rw [hk] at p1; exact p1.elim
    | true =>
      rw [hk, if_pos rfl] at p1
      cases el : fs.lookup n with
      | none => rw [el] at p1; exact p1.elim
      | some w =>
        rw [el] at p1
        rcases z with ⟨rfl, _⟩ | ⟨dx, gs, rf, ea, ed⟩
        · cases el
        · obtain ⟨vv, ev, rv⟩ := Rf.look rf el
          exact ⟨a, g.cl c, dx, gs, vv, rfl, (T c hk).1, (T c hk).2, ea, ed, ev, Post.here (rel := Rl g) p1 c1 rv⟩
/-- an exception of the class C stands at a -/
def ExAt (H : Hp) (C a : Addr) : Prop := H a = some (exo a C none) ∨ ∃ dx gs, H a = some (exo a C (some dx)) ∧ H dx = some (exd dx gs)
theorem ExAt.inst {X : Cx} {pins : List (Addr × Obj)} {σ : L2.St} {s : Shared} {C a : Addr} (I : Inv X pins σ H s) (z : ExAt H C a) : ∃ ox od, PySem.W.InstAt s.heap a ox C od := by
  rcases z with ea | ⟨dx, gs, ea, ed⟩
  · obtain ⟨t1, ho⟩ := exo_at I.hok ea
    exact ⟨_, none, ho, rfl, rfl, trivial⟩
  · obtain ⟨t1, ho⟩ := exo_at I.hok ea
    obtain ⟨mA, hns, _⟩ := exd_at I.hok ed
    obtain ⟨od, hd, _⟩ := lookIn_ns hns
    exact ⟨_, some od, ho, rfl, rfl, hd⟩
theorem cls_some {K : PySem.W.Frag} {C : Addr} (h : PySem.W.hasDictIn K C = true) : (PySem.W.clsIn K C).isSome = true := by
  obtain ⟨cd, hc, _⟩ := PySem.W.any_some h
  rw [hc] <;> rfl
/-- isinstance(x, C), x an exception -/
def rIsX (K : PySem.W.Frag) : List V → Hp → VK → Prop := fun xs H Q => ∃ (a C : Addr) (c : V) (cv : Value) (b : Bool), xs = [.ref a, c] ∧ ExcC K C ∧ ExAt H C a ∧ (∀ u, RelV c u → u = cv) ∧ PySem.W.kitOne K (.ref C) cv = some b ∧ Q (.bl b) H
theorem call_isX : CallR X (.builtin "isinstance") (rIsX X.K) := by
  intro pins s σ H xs us Q I r ⟨a, C, c, cv, b, ex, T, ea, hc, k, q⟩
  subst ex
  obtain ⟨u1, u2, rfl, r1, r2⟩ := vals2 r; obtain rfl : u1 = Value.ref a := r1
  obtain rfl := hc _ r2
  obtain ⟨ox, od, J⟩ := ea.inst I
  exact PySem.W.kia_one (PySem.W.kitx_exc (cls_some T.hd) T.hg T.hk T.hs T.ha T.hn T.ht T.hm) I.kIn J k (fun z => nomatch z) fun tk => ⟨.bl b, H, I.tok tk, rfl, q⟩
/-- isinstance(x, (C1, ..)) -/
def rIsXT (K : PySem.W.Frag) : List V → Hp → VK → Prop := fun xs H Q => ∃ (a C : Addr) (tp : Addr) (cs : List V) (ws : List Value) (b : Bool), xs = [.ref a, .ref tp] ∧ ExcC K C ∧ ExAt H C a ∧ H tp = some (.tup cs) ∧ Paired ClsV cs ws ∧ PySem.W.kitAny K (.ref C) ws = some b ∧ Q (.bl b) H
theorem call_isXT : CallR X (.builtin "isinstance") (rIsXT X.K) := by
  intro pins s σ H xs us Q I r ⟨a, C, tp, cs, ws, b, ex, T, ea, hT, kc, k, q⟩
  subst ex
  obtain ⟨u1, u2, rfl, r1, r2⟩ := vals2 r; obtain rfl : u1 = Value.ref a := r1
  obtain rfl : u2 = Value.ref tp := r2
  obtain ⟨ox, od, J⟩ := ea.inst I
  obtain ⟨_, its, rv, o, h1, h2, n, h3⟩ := (show ObjOk X.prog X.w H s.heap tp (.tup cs) from I.hok tp _ hT); obtain rfl := ClsV.all kc rv
  obtain ⟨oc, od', dt, sl⟩ := o
  simp only at h2 h3
  subst h2 h3
  exact PySem.W.kia_tup (PySem.W.kitx_exc (cls_some T.hd) T.hg T.hk T.hs T.ha T.hn T.ht T.hm) I.kIn J h1 k (fun z => nomatch z) fun tk => ⟨.bl b, H, I.tok tk, rfl, q⟩
/-- tk: the answer, class by class -/
def mIsE (tk : Nat → Option Bool) (a : Me) : Me := fun s h => (a s h).bind fun u h1 => match excOf u h1 with
  | some (c, _) => (match tk c with | some b => .ok (.bl b) h1 | none => .stuck)
  | none => .stuck
theorem isE_read {tk : Nat → Option Bool} {u : U} {v : V} {E : XK} {Q : VK} (r : Rl g ρ u v) (cs : Cs g ρ h H) (p : Post g (Rl g) ρ (match excOf u h with | some (c, _) => (match tk c with | some b => R.ok (.bl b) h | none => .stuck) | none => .stuck) Q E) :
    ∃ a c b, v = .ref a ∧ tk c = some b ∧ ExAt H (g.cl c) a ∧ Post g (Rl g) ρ (R.ok (.bl b) h) Q E := by
  cases ee : excOf u h with
  | none => rw [ee] at p; exact p.elim
  | some cf =>
    obtain ⟨c, fs⟩ := cf
    rw [ee] at p
    simp only at p
    obtain ⟨a, rfl, z⟩ := excOf_ok cs r ee
    cases hk : tk c with
    | none => rw [hk] at p; exact p.elim
    | some b =>
      rw [hk] at p
      rcases z with ⟨_, ea⟩ | ⟨dx, gs, _, ea, ed⟩
      · exact ⟨a, c, b, rfl, hk, .inl ea, p⟩
      · exact ⟨a, c, b, rfl, hk, .inr ⟨dx, gs, ea, ed⟩, p⟩
theorem e_isE {tk : Nat → Option Bool} {p pc : Pos} {x : Str} {vc : V} {cv : Value} (hg : Gl X "isinstance") (hm : X.mg "isinstance" = none) (hc : PE X (.Name x pc) (tC vc)) (hv : ∀ u, RelV vc u → u = cv) (T : ∀ c b, tk c = some b → ExcC X.K (g.cl c) ∧ PySem.W.kitOne X.K (.ref (g.cl c)) cv = some b) (he : PE X e (Vm.T g W A))
    (hst : starEach [e, .Name x pc] X.env = (false, eval e X.env) :: starEach [.Name x pc] X.env := by rfl) (hst2 : starEach [Expr.Name x pc] X.env = (false, eval (.Name x pc) X.env) :: starEach [] X.env := by rfl)
    (hpl : (backTo pos (starEach [Expr.Name x pc] X.env)).any (·.1) = false := by rfl) :
    PE X (.Call (.Name "isinstance" p) [e, .Name x pc] [] pos) (Vm.T g W (mIsE tk A)) := by
  refine PE.im (pe_callB call_isX hg hm PyProof.Rows.boot_isinstance (pa_cons he (pa_cons hc pa_nil hst2) hst) (by decide) (by decide) hst hpl) fun σ H Q q => At.seq (rel := Rl g) q fun ρ1 u s h1 v H1 hs1 c1 r1 p1 => ?_
  obtain ⟨a, c, b, rfl, hk, ea, p2⟩ := isE_read r1 c1 p1
  exact ⟨a, g.cl c, vc, cv, b, rfl, (T c b hk).1, ea, hv, (T c b hk).2, Post.here (rel := Rl g) p2 c1 rfl⟩
def tConst (vs : List V) : TA := fun σ H Q => Q vs H
theorem e_isET {tk : Nat → Option Bool} {p tpos : Pos} {es : List Expr} {x1} {vs : List V} {ws : List Value} (hg : Gl X "isinstance") (hm : X.mg "isinstance" = none) (hc : PA X es (tConst vs)) (hv : Paired ClsV vs ws) (hl : vs.length ≤ 100000) (T : ∀ c b, tk c = some b → ExcC X.K (g.cl c) ∧ PySem.W.kitAny X.K (.ref (g.cl c)) ws = some b) (he : PE X e (Vm.T g W A))
    (hst : starEach [e, .Tuple es x1 tpos] X.env = (false, eval e X.env) :: starEach [.Tuple es x1 tpos] X.env := by rfl) (hst2 : starEach [Expr.Tuple es x1 tpos] X.env = (false, eval (.Tuple es x1 tpos) X.env) :: starEach [] X.env := by rfl)
    (hpl : (backTo pos (starEach [Expr.Tuple es x1 tpos] X.env)).any (·.1) = false := by rfl) :
    PE X (.Call (.Name "isinstance" p) [e, .Tuple es x1 tpos] [] pos) (Vm.T g W (mIsE tk A)) := by
  refine PE.im (pe_callB call_isXT hg hm PyProof.Rows.boot_isinstance (pa_cons he (pa_cons (pe_tup hc) pa_nil hst2) hst) (by decide) (by decide) hst hpl) fun σ H Q q => At.seq (rel := Rl g) q fun ρ1 u s h1 v H1 hs1 c1 r1 p1 => ?_
  obtain ⟨a, c, b, rfl, hk, ea, p2⟩ := isE_read r1 c1 p1
  refine ⟨big_line hl, fun tp ht => ?_⟩
  have ea' : ExAt (upd H1 tp (.tup vs)) (g.cl c) a := by
    rcases ea with ea | ⟨dx, gs, ea, ed⟩
    · refine .inl ?_
      rw [upd_ne fun z => by rw [z, ht] at ea; cases ea]
      exact ea
    · refine .inr ⟨dx, gs, ?_, ?_⟩
      · rw [upd_ne fun z => by rw [z, ht] at ea; cases ea]
        exact ea
      · rw [upd_ne fun z => by rw [z, ht] at ed; cases ed]
        exact ed
  exact ⟨a, g.cl c, tp, vs, ws, b, rfl, (T c b hk).1, ea', upd_same, hv, (T c b hk).2, Post.here (rel := Rl g) p2 (c1.skip ht) rfl⟩
end
end Vm

set_option Elab.async false
set_option linter.all false
set_option maxRecDepth 100000
set_option maxHeartbeats 4100000
namespace Vm
open L2 PyProof.Rows PySem PySem.Spec
/-! ### the law's own entry, where nothing is being shown as text -/
section
variable {P : Program} {w : World} {K : PySem.W.Frag} {base : Heap} {mg : Str → Option Value}
/-- one call of a def, from the around it has -/
theorem fn_at {x qual : Str} {st : Stmt} {f : Addr} {fd : FuncData} {N ps : List Str} {k : Nat} {A : Around} {outer : List Env} {s : Shared} {H : Hp} {args : Args} {us : List Value} {vs : List V} {Q : VK} {E : XK} (F : Fun K x qual st f fd) (S : FnScope N ps (defScope st)) (hr : Room (k + 1) A) (e0 : Env0 P w K mg base A outer s H)
    (hb : BindsTo s fd args (ps.zip us)) (r : Vals vs us) (hl : vs.length = ps.length) (body : ∀ cdv : Value, Room k (A.deeper (envOfC qual (defScope st) s.heap.objs.size f cdv)) →
      ∃ t, PSs (cxOf (L2.CX P w) P w K mg base N qual (defScope st) f cdv A outer s H E) (defBody st) t ∧ t { nx := fun _ H' => Q .non H', rt := Q } (L2.start N vs) H) : codeAny (model P w) A (.call (.ref f) args) (CR (L2.CX P w) outer P w H s Q E) s := by
  obtain ⟨oc, od, kV, doc, pm, an, cdv, ct, osl, rfl, lk, hcd⟩ := F.ex; have old : ∀ b o, base.get? b = some o → s.heap.get? b = some o := fun b o e => (e0.bs b o e).1
  refine Att.call_fn (e0.mod.kin.keeps old) (e0.mod.nolimit.keeps old) lk hcd hr.depth hb ?_ ?_ S.co S.gen S.kind
  · refine List.all_eq_true.mpr fun ⟨n, v⟩ hy => ?_; rcases S.par n (List.of_mem_zip hy).1 with q | q
    · simp only [q]; decide
    · simp only [q]; decide
  · intro s1 ic
    obtain ⟨t, ht, hq⟩ := body cdv (hr.deeper _)
    refine wpAny_mono (ht.run [] s1 _ H _ (inv_start S hr.hd e0 hl r ic) hq) (fun fl s' z => ?_) fun e s' z => z
    cases fl with
    | ret u =>
      obtain ⟨v, σ', H', J, rv, q⟩ := z
      exact ⟨v, H', J.os, J.bare, J.base, J.hok, rv, q⟩
    | next =>
      obtain ⟨σ', H', J, q⟩ := z
      exact ⟨V.non, H', J.os, J.bare, J.base, J.hok, rfl, q⟩
    | brk => exact z.choose_spec.choose_spec.2.elim
    | cont => exact z.choose_spec.choose_spec.2.elim
variable {s : Shared} {fa a : Addr} {vs : List Value} {ns : List Int}
/-- what is wanted of the call -/
def Good (s : Shared) : Result → Shared → Prop := fun r s' => r = .ok (.ret (.bool true)) ∧ OldK s.heap s'.heap ∧ s'.os = s.os ∧ AllBare s'.gens
/-- the end of a call that began at H -/
theorem good_of {H : Hp} {r : Result} {s' : Shared} (hO : Only H) (h0 : HOk P w H s.heap) (z : CR (L2.CX P w) [] P w H s (fun v _ => v = .bl true) (fun _ _ _ => False) r s') : Good s r s' := by
  cases r with
  | error e =>
    obtain ⟨_, _, _, _, _, _, _, _, _, _, _, _, z⟩ := z
    exact z.elim
  | ok fl =>
    cases fl with
    | next => exact z.elim
    | brk => exact z.elim
    | cont => exact z.elim
    | ret u =>
      obtain ⟨v, H', os, bare, un, hok, rv, q⟩ := z
      have q' : v = .bl true := q
      subst q'
      have ru : u = Value.bool true := rv
      subst ru
      refine ⟨rfl, OldK.of_keep fun b o e => ?_, os, bare⟩; cases hb : H b with
      | none => exact un.keep b o e hb (fun z => nomatch z) (fun z => nomatch z)
      | some x =>
        rcases hO b with n | ⟨ob, xs, n⟩
        · rw [n] at hb; cases hb
        · have g0 : s.heap.get? b = some ob := (h0 b _ n).1
          have g1 : s'.heap.get? b = some ob := (hok b _ (un.frzs b ob _ n)).1
          rw [g1, ← g0, e]
/-- H tracks nothing but the script, if that -/
theorem env_of {H : Hp} (KX : K.In s.heap) (hns : s.heap.Ns mainGlobals mg) {mb : Str → Option Value} (hb : s.heap.Ns builtinsNs mb) (hbb : ∀ x : Str, x ≠ "__name__" → mb x = bootBuiltins x) (hlim : s.heap.NoLimit) (hg : s.gens = #[]) (ha : s.heap.get? a = some { cls := .type "list", data := .seq vs.toArray })
    (hok : HOk P w H s.heap) (hA : ∀ b, H b ≠ none → b = a) (hK : H a ≠ none → K.lookup a = none) : ∃ base : Heap, K.In base ∧ base.Ns mainGlobals mg ∧ Env0 P w K mg base callerA [] s H := by
  have at_a : ∀ {b : Addr} {u : HO}, H b = some u → b = a := fun {b u} e => hA b (by rw [e]; exact fun z => nomatch z)
  have dicts : ∀ {b : Addr} {o : Obj} {es : Array DictEntry} {ep : Nat}, s.heap.get? b = some o → o.data = .dict es ep → H b = none := fun {b o es ep} e d => by
    cases q : H b with
    | none => rfl
    | some u =>
      obtain rfl := at_a q
      rw [ha] at e
      cases e
      cases d
  have nsB : ∀ {b : Addr} {m : Str → Option Value}, s.heap.Ns b m → (hidT s.heap H).Ns b m := fun {b m} z => by
    obtain ⟨o, es, ep, e, d, r⟩ := z
    exact ⟨o, es, ep, hidT_get e (dicts e d), d, r⟩
  have kB : K.In (hidT s.heap H) := fun b o e => hidT_get (KX b o e) (by
    cases q : H b with
    | none => rfl
    | some u =>
      obtain rfl := at_a q
      rw [hK (by rw [q]; exact fun z => nomatch z)] at e
      cases e)
  obtain ⟨mc, l1, l2⟩ := hlim
  exact ⟨_, kB, nsB hns, rfl, ⟨kB, nsB hns, ⟨mb, nsB hb, hbb⟩, ⟨mc, nsB l1, l2⟩⟩, fun b o e => of_hidT e, Nat.le_of_eq (hidT_size _ _), trivial, (fun b z => nomatch z), hok, .of_eq hg⟩
theorem law_at (KX : K.In s.heap) (hns : s.heap.Ns mainGlobals mg) {mb : Str → Option Value} (hb : s.heap.Ns builtinsNs mb) (hbb : ∀ x : Str, x ≠ "__name__" → mb x = bootBuiltins x) (hlim : s.heap.NoLimit) (hg : s.gens = #[]) (ha : s.heap.get? a = some { cls := .type "list", data := .seq vs.toArray }) (hi : IntsAre vs ns) (hl : ns.length ≤ sizeLine)
    (run : ∀ (base : Heap) (H : Hp), K.In base → base.Ns mainGlobals mg → Env0 P w K mg base callerA [] s H → Only H → SqL K H a (ns.map V.int) → codeAny (model P w) callerA (.call (.ref fa) ⟨[.ref a], []⟩) (CR (L2.CX P w) [] P w H s (fun v _ => v = .bl true) (fun _ _ _ => False)) s) :
    codeAny (model P w) callerA (.call (.ref fa) ⟨[.ref a], []⟩) (Good s) s := by
  have rv := vals_ints hi
  have lv := hi.length
  have go : ∀ H : Hp, HOk P w H s.heap → (∀ b, H b ≠ none → b = a) → (H a ≠ none → K.lookup a = none) → Only H → SqL K H a (ns.map V.int) → codeAny (model P w) callerA (.call (.ref fa) ⟨[.ref a], []⟩) (Good s) s := fun H hok hA hK hO hS => by
    obtain ⟨base, k1, k2, e0⟩ := env_of KX hns hb hbb hlim hg ha hok hA hK
    exact codeAny_mono (run base H k1 k2 e0 hO hS) fun r s' z => good_of hO hok z
  cases hk : K.lookup a with
  | some o =>
    have e := KX a o hk
    rw [ha] at e
    cases e
    exact go (fun _ => none) (fun b u z => nomatch z) (fun b z => absurd rfl z) (fun z => absurd rfl z) (fun _ => .inl rfl) (.inr ⟨_, vs.toArray, _, hk, rfl, rfl, rfl, by rw [List.size_toArray, lv]; exact hl, by simpa using rv⟩)
  | none =>
    have same : upd (fun _ => none) a (HO.frz { cls := .type "list", data := .seq vs.toArray } (.lst (ns.map V.int))) a = some (HO.frz { cls := .type "list", data := .seq vs.toArray } (.lst (ns.map V.int))) := upd_same
    have other : ∀ b, b ≠ a → upd (fun _ => none) a (HO.frz { cls := .type "list", data := .seq vs.toArray } (.lst (ns.map V.int))) b = none := fun b hb => upd_ne hb
    refine go (upd (fun _ => none) a (.frz { cls := .type "list", data := .seq vs.toArray } (.lst (ns.map V.int)))) (fun b u z => ?_) (fun b z => ?_) (fun _ => hk) (fun b => ?_) (.inl (.inr ⟨_, same⟩))
    · by_cases h : b = a
      · subst h
        rw [same] at z
        cases z; exact ⟨ha, by rw [List.length_map]; exact hl, vs, _, rv, ha⟩
      · rw [other b h] at z
        cases z
    · by_cases h : b = a
      · exact h
      · exact absurd (other b h) z
    · by_cases h : b = a
      · subst h
        exact .inr ⟨_, _, same⟩
      · exact .inl (other b h)
end
/-- the body of the law's def, from where nothing is being shown -/
def LawBody (P : Program) (w : World) (K : PySem.W.Frag) (mg : Str → Option Value) (base : Heap) (g : Gc) (qual : Str) (st : Stmt) (N : List Str) (f : Addr) (k : Nat) (m : Ms) : Prop :=
  ∀ (cdv : Value) (A : Around) (outer : List Env) (s : Shared) (H : Hp) (E : XK), A.guards = some [] → Room k (A.deeper (envOfC qual (defScope st) s.heap.objs.size f cdv)) →
    (cxOf (L2.CX P w) P w K mg base N qual (defScope st) f cdv A outer s H E).A.units + 65 < cLine →
    PassesOwn (model P w) (cxOf (L2.CX P w) P w K mg base N qual (defScope st) f cdv A outer s H E).A (cxOf (L2.CX P w) P w K mg base N qual (defScope st) f cdv A outer s H E).env (cxOf (L2.CX P w) P w K mg base N qual (defScope st) f cdv A outer s H E).xe →
    Takes (cxOf (L2.CX P w) P w K mg base N qual (defScope st) f cdv A outer s H E) (fun cls d _ H => E cls d H) →
    PSs (cxOf (L2.CX P w) P w K mg base N qual (defScope st) f cdv A outer s H E) (defBody st) (TSm g (fun cls d _ H => E cls d H) m)
theorem walk_lawG {l : PySem.W.OpenLaw} {q : Program} {loose : List Str} {XP : (Str → Option Value) → Heap → Prop} {YP : World → Heap → Prop} {d : DefRec} {K : Params → PySem.W.Frag} {k : Nat} {N : List Str} {m : List Int → Ms} (hn : l.most = some 63) (hdf : d.params.defaults = []) (hr : Room (k + 1) callerA)
    (hY : ∀ (w : World) (h : Heap), YP w h → (K w.params).In h) (yes : ∀ ns : List Int, ns.length ≤ 63 → Yes (runB N.length (m ns) [.scr] [])) (F : ∀ (w : World) (mg : Str → Option Value) (fa : Addr) (h : Heap), (K w.params).In h → h.Ns mainGlobals mg → mg d.name = some (.ref fa) →
      ∃ (fd : FuncData) (x qual : Str) (st : Stmt) (cl : Nat → Addr), Fun (K w.params) x qual st fa fd ∧ FnScope N ["script"] (defScope st) ∧ (∀ (s : Shared) (u : Value), BindsTo s fd ⟨[u], []⟩ [("script", u)]) ∧
        ∀ base : Heap, (K w.params).In base → base.Ns mainGlobals mg → ∀ g : Gc, g.K = K w.params → g.cl = cl → g.exn = none → LawBody l.prog w (K w.params) mg base g qual st N fa k (m g.ns)) : PySem.W.WalkO q loose XP YP l.row.toRowW d [] (fun f vs => PySem.call f vs) := by
  refine Att.attach_call hn hdf fun w s0 s1 mg mb fa o pm cd doc a vs ns G Y ho hd hcd hmg hobj hints hlen hg => ?_
  have KX := hY w _ Y
  obtain ⟨fd, x, qual, st, cl, Fn, S, bt, body⟩ := F w mg fa _ KX G.T.g hmg
  refine law_at KX G.T.g G.T.b G.T.builtins G.T.nolimit hg hobj hints (Nat.le_trans hlen (big_line (by decide))) fun base H k1 k2 e0 hO hS => ?_
  refine fn_at (us := [.ref a]) (vs := [.ref a]) Fn S hr e0 (bt s1 (.ref a)) (.cons rfl .nil) rfl fun cdv hr' => ?_
  refine ⟨_, body base k1 k2 ⟨cl, K w.params, a, ns, none⟩ rfl rfl rfl cdv callerA [] s1 H _ rfl hr' (by have := hr'.un; show (callerA.deeper (envOfC qual (defScope st) s1.heap.objs.size fa cdv)).units + 65 < cLine; omega) (passes_of rfl) (takes_of rfl rfl rfl rfl), ?_⟩
  refine run_read (g := ⟨cl, K w.params, a, ns, none⟩) (n := 1) (N := N) (m := m ns) (vs := [.ref a]) (Q := fun v _ => v = .bl true) (E := fun _ _ _ => False) ⟨rfl, Wd.nil, [.scr], [], .cons rfl .nil, Cs.start hO hS, ?_⟩
  have y := yes ns hlen
  cases e : runB N.length (m ns) [.scr] [] with
  | ok u h =>
    rw [e] at y
    cases u with
    | bl b =>
      cases b with
      | true => exact fun ρ' v H' _ _ r => r
      | false => exact y.elim
    | _ => exact y.elim
  | ex c f h => rw [e] at y; exact y.elim
  | stuck => rw [e] at y; exact y.elim
end Vm

set_option Elab.async false
set_option linter.all false
set_option maxRecDepth 100000
set_option maxHeartbeats 4100000
namespace Vm
open L2 PyProof.Rows PySem PySem.Spec
section
variable {X : Cx} {g : Gc} {W : WX} {A : Me} {L : Ml} {o e : Expr} {es : List Expr} {apos cpos pos : Pos}
/-! ### xs.count(y) -/
def rCntD (K : PySem.W.Frag) : V → List V → Hp → VK → Prop := fun x xs H Q => ∃ (a : Addr) (y : V) (d : PyData) (ds : List PyData), x = .ref a ∧ xs = [y] ∧ Dp K H (.ref a) (.list ds) ∧ Dp K H y d ∧ PyData.plainAll ds = true ∧ d.plain = true ∧ d.depth ≤ 60 ∧ Q (.int (ds.countP fun z => PyData.eqv z d : Nat)) H
theorem mt_countD (hu : X.A.units + 65 < cLine) : MtR X "list.count" (rCntD X.K) := by
  intro pins s σ H x xs v us Q I rx rxs ⟨a, y, d, ds, ex, exs, hl, hy, p1, p2, dp, q⟩
  subst ex exs
  obtain rfl : v = Value.ref a := rx; obtain ⟨u, rfl, ru⟩ := rxs.one
  obtain ⟨as, r1⟩ := Dp.reads I (.list ds) (.ref a) (.ref a) hl rfl
  obtain ⟨bs, r2⟩ := Dp.reads I d y u hy ru
  cases r1 with
  | list e1 e2 e3 e4 => exact SeqAt.count_list_data ⟨_, e1, e2, _, e3⟩ e4 r2 p1 p2 (by have := Nat.min_le_right (PyData.depthAll ds) d.depth; omega) ⟨.int _, H, I.tok _, ⟨_, rfl⟩, q⟩
def fCount : Fm := fun x us h => match us with
  | [u] => match rd h deep x, rd h deep u with
    | some (.list ds), some d => if PyData.plainAll ds && d.plain && decide (d.depth ≤ 60) then .ok (.int (ds.countP fun z => PyData.eqv z d : Nat)) h else .stuck
    | _, _ => .stuck
  | _ => .stuck
theorem s_count {K : PySem.W.Frag} (hK : K = g.K := by assumption) : SMt g K "list" fCount (rCntD K) := fun E ρ x xs vx vs h H Q rx rs cs p => by
  subst hK
  unfold fCount at p
  split at p
  · rename_i u
    obtain ⟨v, rfl, r1⟩ := one_of rs
    split at p
    · rename_i ds d e1 e2
      split at p
      · rename_i c
        simp only [Bool.and_eq_true, decide_eq_true_eq] at c
        have dl := rd_dp cs _ _ _ _ rx e1
        have dl2 := dl
        cases dl2 with
        | lst hs ha => exact ⟨_, v, d, ds, rfl, rfl, dl, rd_dp cs _ _ _ _ r1 e2, c.1.1, c.1.2, c.2, Post.here (rel := Rl g) p cs rfl⟩
      · exact p.elim
    · exact p.elim
  · exact p.elim
theorem e_count (hK : X.K = g.K := by assumption) (hu : X.A.units + 65 < cLine) (ho : PE X o (T g W A)) (ha : PA X (e :: es) (TL g W L)) (b0 : attributeBase o "count" X.env (eval o X.env) = eval o X.env := by rfl)
    (b1 : ((backTo cpos (starEach (e :: es) X.env)).all (fun x => !x.1) && (backToKw cpos (keywordEach [] X.env)).all (fun x => x.1.isSome) && decide ((e :: es).length + ([] : List Keyword).length + (if ([] : List Keyword).isEmpty then 0 else 1) < 30)) = true := by rfl)
    (b2 : (apos.endLine == cpos.line) = true := by rfl) (b3 : starEach (e :: es) X.env = (false, eval e X.env) :: starEach es X.env := by rfl) (b4 : (backTo cpos (starEach es X.env)).any (·.1) = false := by rfl) :
    PE X (.Call (.Attribute o "count" apos) (e :: es) [] cpos) (T g W (mMtL fCount A L)) := e_mtL PySem.F.slot_list_count PySem.F.type_list_count (mt_countD hu) s_count ho ha b0 b1 b2 b3 b4
/-! ### f() -/
def mCall0 (d : List U → Mh → R U) : Me := fun _ h => match d [] h with
  | .ok u h1 => .ok u h1
  | _ => .stuck
theorem e_call0 {k : Nat} {f : Addr} {fd : FuncData} {d : List U → Mh → R U} {x : Str} {p : Pos} (F : FnOk X.prog X.w X.K X.mg X.base (L2.CX X.prog X.w) k f fd [] (spM g 0 d)) (hr : Room k X.A) (hg : Gl X x) (hm : X.mg x = some (.ref f)) (hk : PySem.W.keepIn X.K (.ref f) = true) (hb : Binds X.K fd [] []) (hdb : (x == ("__debug__" : Str)) = false := by decide) :
    PE X (.Call (.Name x p) [] [] pos) (T g W (mCall0 d)) := by
  refine PE.im (pe_call0 (E := E0) (dvs := []) F hr hg hm hk hb .nil passL hdb) fun σ H Q ⟨ρ, s, h, hs, cs, z⟩ => ⟨rfl, ρ, [], h, .nil, cs, ?_⟩
  unfold mCall0 at z
  cases ed : d [] h with
  | ok u h1 => rw [ed] at z; exact z
  | ex c f h1 => rw [ed] at z; exact z.elim
  | stuck => rw [ed] at z; exact z.elim
end
end Vm

set_option Elab.async false
set_option linter.all false
set_option maxRecDepth 100000
set_option maxHeartbeats 4100000
namespace Vm
open L2 PyProof.Rows PySem PySem.Spec
/-! ### a module's own exception classes, all at once -/
/-- the def within a class's body -/
def clsS (st : Stmt) : Stmt := match st with
  | .ClassDef _ _ _ body .. => body.getD 0 (.Pass ⟨0, 0, 0, 0⟩)
  | _ => .Pass ⟨0, 0, 0, 0⟩
/-- a class whose __init__ keeps one argument -/
def Xcf (P : Program) (w : World) (K : PySem.W.Frag) (mg : Str → Option Value) (base : Heap) (x f : Str) (C : Addr) : Prop :=
  ∃ fI fd, Xc1 K mg x f C fI ∧ FnOk P w K mg base (L2.CX P w) 1 fI fd ["self", f] (spI K f) ∧ Binds K fd ["self", f] [] ∧ ∀ (s : Shared) (p u : Value), K.In s.heap → BindsTo s fd ⟨[p], [(f, u)]⟩ ((["self", f] : List Str).zip [p, u])
section
variable {X : Cx} {g : Gc} {W : WX} {A : Me} {M : Ms} {e : Expr} {pos : Pos}
theorem e_xP {c : Nat} {x f : Str} {p : Pos} (T : Xcf X.prog X.w X.K X.mg X.base x f (g.cl c)) (hr : Room 2 X.A) (hg : Gl X x) (ha : PE X e (Vm.T g W A)) (hst : starEach [e] X.env = (false, eval e X.env) :: starEach [] X.env := by rfl) (hpl : (backTo pos (starEach ([] : List Expr) X.env)).any (·.1) = false := by rfl) (hdb : (x == ("__debug__" : Str)) = false := by decide) :
    PE X (.Call (.Name x p) [e] [] pos) (Vm.T g W (mExn c f A)) := by
  obtain ⟨fI, fd, T1, F, b, _⟩ := T
  exact e_exnP T1 F hr passL b hg ha hst hpl hdb
theorem e_xK {c : Nat} {x f : Str} {p kp : Pos} (T : Xcf X.prog X.w X.K X.mg X.base x f (g.cl c)) (hr : Room 2 X.A) (hg : Gl X x) (ha : PE X e (Vm.T g W A)) (hdb : (x == ("__debug__" : Str)) = false := by decide)
    (hall : (backToKw pos (keywordEach [⟨some f, e, kp⟩] X.env)).all (·.1.isSome) = true := by rfl) (hks : (backToKw pos (keywordEach [⟨some f, e, kp⟩] X.env)).filterMap (·.1) = [f] := by rfl)
    (hpl : ((backTo pos (starEach [] X.env)).any (·.1) || (backToKw pos (keywordEach [⟨some f, e, kp⟩] X.env)).any (·.1.isNone)) = false := by rfl) :
    PE X (.Call (.Name x p) [] [⟨some f, e, kp⟩] pos) (Vm.T g W (mExn c f A)) := by
  obtain ⟨fI, fd, T1, F, _, b⟩ := T
  exact e_exnK T1 F hr passL b hg ha hdb hall hks hpl
theorem s_xR {c : Nat} {x f : Str} {p p2 : Pos} (hc : X.calm = true) (tk : Takes X W) (T : Xcf X.prog X.w X.K X.mg X.base x f (g.cl c)) (hr : Room 2 X.A) (hg : Gl X x) (ha : PE X e (Vm.T g W A)) (hst : starEach [e] X.env = (false, eval e X.env) :: starEach [] X.env := by rfl) (hpl : (backTo pos (starEach ([] : List Expr) X.env)).any (·.1) = false := by rfl) (hdb : (x == ("__debug__" : Str)) = false := by decide) :
    PS X (.Raise (some (.Call (.Name x p) [e] [] pos)) none p2) (TSm g W (sRaise1 c f A)) := by
  obtain ⟨fI, fd, T1, F, b, _⟩ := T
  exact s_raise1 hc tk passL T1 F hr b hg ha hst hpl hdb
end
theorem oex_mk {K : PySem.W.Frag} {C N : Addr} {nm q : Str} {bs bm : List Value} {sn : List Str} {sub : List Value} {ab : Bool} {col : Option Bool} {dd : Option Addr} {k0 k1 k2 k3 k5 : Option Value} (lk : K.lookup C = some (excClassObj nm q C N bs bm true sn sub ab col dd k0 k1 k2 k3 k5 "ValueError.__new__")) (r : PySem.HandSPX.refsVE bm = true)
    (sa : PySem.W.findIn K (.ref C) "__setattr__" = some (some (.builtin "object.__setattr__"))) (ex : PySem.W.subIn K (.ref C) (.type "BaseException") = some true) (ty : PySem.W.typeIn K (.ref C) = some (.type "type")) (k : PySem.W.keepIn K (.ref C) = true) : OexC K C :=
  ⟨⟨nm, q, N, bs, bm, sn, sub, ab, col, dd, k0, k1, k2, k3, k5, lk, r⟩, sa, ex, ty, k⟩
/-- what is asked of the classes at all, by looking -/
def exB (K : PySem.W.Frag) (C : Addr) : Bool :=
  decide (PySem.W.findIn K (.ref C) "__getattribute__" = some (some (.builtin "BaseException.__getattribute__"))) && decide (PySem.W.findIn K (.ref C) "__getattr__" = some none) && decide (PySem.W.subIn K (.ref C) (.type "BaseException") = some true) && PySem.W.hasDictIn K C &&
  decide (PySem.W.findIn K (.ref C) "__class__" = some (some (.builtin "object.__class__"))) && decide (PySem.W.specialIn K (.builtin "object.__class__") "__get__" = some (some (.builtin "getset_descriptor.__get__"))) && decide (PySem.W.takesIn K (.builtin "object.__class__") = some true) && decide (PySem.W.mroIn K C (.type "object") = some true)
theorem exB_ok {K : PySem.W.Frag} {C : Addr} (h : exB K C = true) : ExcC K C ∧ XfC K C := by
  unfold exB at h
  simp only [Bool.and_eq_true, decide_eq_true_eq] at h; obtain ⟨⟨⟨⟨⟨⟨⟨h1, h2⟩, h3⟩, h4⟩, h5⟩, h6⟩, h7⟩, h8⟩ := h
  exact ⟨⟨h1, h2, h3, h4, h5, h6, h7, h8⟩, ⟨h1, h2, h3, h4⟩⟩
def allC (n : Nat) (p : Nat → Bool) : Bool := (List.range n).all p
theorem allC_ok {n : Nat} {p : Nat → Bool} (h : allC n p = true) : ∀ c, c < n → p c = true := fun c hc => List.all_eq_true.mp h c (List.mem_range.mpr hc)
def tk0 (n : Nat) (b : Nat → Bool) : Nat → Option Bool := fun c => if c < n then some (b c) else none
theorem tk0_ok {n : Nat} {b : Nat → Bool} {c : Nat} {k : Bool} (h : tk0 n b c = some k) : c < n ∧ b c = k := by
  unfold tk0 at h
  split at h
  · rename_i hc
    exact ⟨hc, Option.some.inj h⟩
  · cases h
/-- what the program has of them: n classes, the first one over all -/
structure Ecs (K : PySem.W.Frag) (cl : Nat → Addr) (n : Nat) (fs : List Str) : Prop where
  ex : ∀ c, c < n → ExcC K (cl c) ∧ XfC K (cl c)
  no : ∀ f ∈ fs, ∀ c, c < n → PySem.W.findIn K (.ref (cl c)) f = some none
  is : ∀ d, d < n → ∀ c, c < n → PySem.W.kitOne K (.ref (cl c)) (.ref (cl d)) = some (c == d || d == 0)
  ve : ∀ c, c < n → PySem.W.kitOne K (.ref (cl c)) (.type "ValueError") = some true
  ki : ∀ c, c < n → PySem.W.kitAny K (.ref (cl c)) [.type "KeyError", .type "IndexError", .type "LookupError"] = some false
  xm : ∀ c, c < n → PySem.W.exmOne K (.ref (cl c)) (.ref (cl 0)) = some true
def ecsB (K : PySem.W.Frag) (cl : Nat → Addr) (n : Nat) (fs : List Str) : Bool :=
  allC n (fun c => exB K (cl c)) && fs.all (fun f => allC n fun c => decide (PySem.W.findIn K (.ref (cl c)) f = some none)) && allC n (fun d => allC n fun c => decide (PySem.W.kitOne K (.ref (cl c)) (.ref (cl d)) = some (c == d || d == 0))) &&
  allC n (fun c => decide (PySem.W.kitOne K (.ref (cl c)) (.type "ValueError") = some true)) && allC n (fun c => decide (PySem.W.kitAny K (.ref (cl c)) [.type "KeyError", .type "IndexError", .type "LookupError"] = some false)) && allC n (fun c => decide (PySem.W.exmOne K (.ref (cl c)) (.ref (cl 0)) = some true))
theorem ecsB_ok {K : PySem.W.Frag} {cl : Nat → Addr} {n : Nat} {fs : List Str} (h : ecsB K cl n fs = true) : Ecs K cl n fs := by
  unfold ecsB at h
  simp only [Bool.and_eq_true] at h; obtain ⟨⟨⟨⟨⟨h1, h2⟩, h3⟩, h4⟩, h5⟩, h6⟩ := h
  exact ⟨fun c hc => exB_ok (allC_ok h1 c hc), fun f hf c hc => of_decide_eq_true (allC_ok (List.all_eq_true.mp h2 f hf) c hc), fun d hd c hc => of_decide_eq_true (allC_ok (allC_ok h3 d hd) c hc), fun c hc => of_decide_eq_true (allC_ok h4 c hc), fun c hc => of_decide_eq_true (allC_ok h5 c hc), fun c hc => of_decide_eq_true (allC_ok h6 c hc)⟩
section
variable {X : Cx} {g : Gc} {W : WX} {A : Me} {e : Expr} {pos : Pos} {n : Nat} {fs : List Str}
theorem e_xfd {f : Str} (T : Ecs X.K g.cl n fs) (hf : f ∈ fs) (he : PE X e (Vm.T g W A)) (hb : attributeBase e f X.env (eval e X.env) = eval e X.env := by rfl) : PE X (.Attribute e f pos) (Vm.T g W (mExnF (fun c => decide (c < n)) f A)) :=
  e_exnF (fun c hc => ⟨(T.ex c (of_decide_eq_true hc)).2, T.no f hf c (of_decide_eq_true hc)⟩) he hb
theorem e_isC {d : Nat} {p pc : Pos} {x : Str} (T : Ecs X.K g.cl n fs) (hd : d < n) (hg : Gl X "isinstance") (hm : X.mg "isinstance" = none) (hgx : Gl X x) (hmx : X.mg x = some (.ref (g.cl d))) (he : PE X e (Vm.T g W A)) (hdb : (x == ("__debug__" : Str)) = false := by decide)
    (hst : starEach [e, .Name x pc] X.env = (false, eval e X.env) :: starEach [.Name x pc] X.env := by rfl) (hst2 : starEach [Expr.Name x pc] X.env = (false, eval (.Name x pc) X.env) :: starEach [] X.env := by rfl)
    (hpl : (backTo pos (starEach [Expr.Name x pc] X.env)).any (·.1) = false := by rfl) :
    PE X (.Call (.Name "isinstance" p) [e, .Name x pc] [] pos) (Vm.T g W (mIsE (tk0 n fun c => c == d || d == 0) A)) :=
  e_isE (cv := .ref (g.cl d)) (vc := .ref (g.cl d)) hg hm (pe_glob hgx hmx rfl hdb) (fun u r => r) (fun c b h => by
    obtain ⟨hc, rfl⟩ := tk0_ok h
    exact ⟨(T.ex c hc).1, T.is d hd c hc⟩) he hst hst2 hpl
theorem e_isVE {p pc : Pos} (T : Ecs X.K g.cl n fs) (hg : Gl X "isinstance") (hm : X.mg "isinstance" = none) (hgx : Gl X "ValueError") (hmx : X.mg "ValueError" = none) (he : PE X e (Vm.T g W A))
    (hst : starEach [e, .Name "ValueError" pc] X.env = (false, eval e X.env) :: starEach [.Name "ValueError" pc] X.env := by rfl) (hst2 : starEach [Expr.Name "ValueError" pc] X.env = (false, eval (.Name "ValueError" pc) X.env) :: starEach [] X.env := by rfl)
    (hpl : (backTo pos (starEach [Expr.Name "ValueError" pc] X.env)).any (·.1) = false := by rfl) :
    PE X (.Call (.Name "isinstance" p) [e, .Name "ValueError" pc] [] pos) (Vm.T g W (mIsE (tk0 n fun _ => true) A)) :=
  e_isE (cv := .type "ValueError") (vc := .ty "ValueError") hg hm (pe_bltn hgx hmx (by decide +kernel) rfl) (fun u r => r) (fun c b h => by
    obtain ⟨hc, rfl⟩ := tk0_ok h
    exact ⟨(T.ex c hc).1, T.ve c hc⟩) he hst hst2 hpl
theorem e_isKI {p q1 q2 q3 tpos : Pos} {x1} (T : Ecs X.K g.cl n fs) (hg : Gl X "isinstance") (hm : X.mg "isinstance" = none) (g1 : Gl X "KeyError") (m1 : X.mg "KeyError" = none) (g2 : Gl X "IndexError") (m2 : X.mg "IndexError" = none) (g3 : Gl X "LookupError") (m3 : X.mg "LookupError" = none) (he : PE X e (Vm.T g W A))
    (hst : starEach [e, .Tuple [.Name "KeyError" q1, .Name "IndexError" q2, .Name "LookupError" q3] x1 tpos] X.env = (false, eval e X.env) :: starEach [.Tuple [.Name "KeyError" q1, .Name "IndexError" q2, .Name "LookupError" q3] x1 tpos] X.env := by rfl)
    (hst2 : starEach [Expr.Tuple [.Name "KeyError" q1, .Name "IndexError" q2, .Name "LookupError" q3] x1 tpos] X.env = (false, eval (.Tuple [.Name "KeyError" q1, .Name "IndexError" q2, .Name "LookupError" q3] x1 tpos) X.env) :: starEach [] X.env := by rfl)
    (hpl : (backTo pos (starEach [Expr.Tuple [.Name "KeyError" q1, .Name "IndexError" q2, .Name "LookupError" q3] x1 tpos] X.env)).any (·.1) = false := by rfl) :
    PE X (.Call (.Name "isinstance" p) [e, .Tuple [.Name "KeyError" q1, .Name "IndexError" q2, .Name "LookupError" q3] x1 tpos] [] pos) (Vm.T g W (mIsE (tk0 n fun _ => false) A)) :=
  e_isET (vs := [.ty "KeyError", .ty "IndexError", .ty "LookupError"]) (ws := [.type "KeyError", .type "IndexError", .type "LookupError"]) hg hm
    (pa_cons (pe_bltn (v := .ty "KeyError") g1 m1 (by decide +kernel) rfl) (pa_cons (pe_bltn (v := .ty "IndexError") g2 m2 (by decide +kernel) rfl) (pa_cons (pe_bltn (v := .ty "LookupError") g3 m3 (by decide +kernel) rfl) pa_nil (by rfl)) (by rfl)) (by rfl))
    (.cons (.ty _) (.cons (.ty _) (.cons (.ty _) .nil))) (by decide) (fun c b h => by
    obtain ⟨hc, rfl⟩ := tk0_ok h
    exact ⟨(T.ex c hc).1, T.ki c hc⟩) he hst hst2 hpl
end
end Vm

set_option Elab.async false
set_option linter.all false
set_option maxRecDepth 100000
set_option maxHeartbeats 4100000
namespace Vm
open L2 PyProof.Rows PySem PySem.Spec
theorem lt64 {a c : Nat} (h : a + 65 < c) : a + 64 < c := by omega
theorem xcf_mk {P : Program} {w : World} {K : PySem.W.Frag} {mg : Str → Option Value} {base : Heap} {x f qual : Str} {st : Stmt} {C fI : Addr} {fd : FuncData} {p1 p2 p3 p4 : Pos} (gC : mg x = some (.ref C)) (ox : OexC K C) (iC : PySem.W.findIn K (.ref C) "__init__" = some (some (.ref fI))) (tI : PySem.W.typeIn K (.ref fI) = some (.type "function"))
    (nf : PySem.W.findIn K (.ref C) f = some none) (F : Fun K "__init__" qual st fI fd) (S : FnScope ["self", f] ["self", f] (defScope st)) (hb : defBody st = [.Assign [.Attribute (.Name "self" p1) f p2] (.Name f p3) p4]) (b : Binds K fd ["self", f] []) (bk : ∀ (s : Shared) (p u : Value), BindsTo s fd ⟨[p], [(f, u)]⟩ ((["self", f] : List Str).zip [p, u]))
    (h0 : Vis (defScope st) "self") (h1 : Vis (defScope st) f) (hd : (f == ("__debug__" : Str)) = false) (hcd : (f == ("__classdict__" : Str)) = false) (hs : ∀ X : Cx, swapsWith (.Name f p3) (some (.Attribute (.Name "self" p1) f p2)) p4.line X.env = pure false) : Xcf P w K mg base x f C :=
  ⟨fI, fd, ⟨gC, ox, iC, tI, nf⟩, init_ok (k := 0) F S hb h0 h1 hd hcd hs, b, fun s p u _ => bk s p u⟩
end Vm

set_option Elab.async false
set_option linter.all false
set_option maxRecDepth 100000
set_option maxHeartbeats 4100000
namespace Vm
open L2 PyProof.Rows PySem PySem.Spec

/-! ### frozen data: to and from -/
def pdOf : U → Option PyData
  | .non => some .none
  | .bl b => some (.bool b)
  | .int i => some (.int i)
  | .str x => some (.str x)
  | .dat d => some d
  | _ => none
def pdsOf : List U → Option (List PyData)
  | [] => some []
  | u :: us => match pdOf u with
    | some d => match pdsOf us with
      | some ds => some (d :: ds)
      | none => none
    | none => none
def ofPd : PyData → U
  | .none => .non
  | .bool b => .bl b
  | .int i => .int i
  | .str x => .str x
  | .list ds => .dat (.list ds)
  | .tuple ds => .dat (.tuple ds)
  | .dict k => .dat (.dict k)
section
variable {g : Gc} {ρ ρ' : Wd} {h : Mh} {H : Hp}
theorem pd_ok {u : U} {v : V} {d : PyData} (r : Rl g ρ u v) (e : pdOf u = some d) : Dq g.K ρ.fz v d := by
  cases u with
  | non => cases e; cases r; exact .non
  | bl b => cases e; cases r; exact .bl b
  | int b => cases e; cases r; exact .int b
  | str b => cases e; cases r; exact .str b
  | dat d' => cases e; exact r.2
  | loc n => cases e
  | scr => cases e
  | exn => cases e
  | obj c fs => cases e
  | pr ds => cases e
theorem pds_ok : ∀ {us : List U} {vs : List V} {ds : List PyData}, Rls g ρ us vs → pdsOf us = some ds → DqAll g.K ρ.fz vs ds
  | _, _, _, .nil, e => by cases e; exact .nil
  | u :: us, _, ds, .cons r rs, e => by
    unfold pdsOf at e
    cases e1 : pdOf u with
    | none => rw [e1] at e; cases e
    | some d =>
      rw [e1] at e
      cases e2 : pdsOf us with
      | none => rw [e2] at e; cases e
      | some dt =>
        rw [e2] at e
        cases e
        exact .cons (pd_ok r e1) (pds_ok rs e2)
theorem of_ok {v : V} {d : PyData} (r : Dq g.K ρ.fz v d) : Rl g ρ (ofPd d) v := by
  cases d with
  | none => cases r; rfl
  | bool b => cases r; rfl
  | int i => cases r; rfl
  | str x => cases r; rfl
  | list ds => exact ⟨rfl, r⟩
  | tuple ds => exact ⟨rfl, r⟩
  | dict k => cases r
theorem ofs_ok : ∀ {vs : List V} {ds : List PyData}, DqAll g.K ρ.fz vs ds → Rls g ρ (ds.map ofPd) vs
  | _, [], .nil => .nil
  | _, d :: ds, .cons r rs => .cons (of_ok r) (ofs_ok rs)
theorem DqAll.len {K : PySem.W.Frag} : ∀ {vs : List V} {ds : List PyData}, DqAll K H vs ds → vs.length = ds.length
  | _, [], .nil => rfl
  | _, d :: ds, .cons r rs => by rw [List.length_cons, List.length_cons, DqAll.len rs]
/-- a list's or a tuple's items, wherever they stand -/
def seqOf (u : U) (h : Mh) : Option (Bool × List U) := match u with
  | .loc n => match h[n]? with
    | some (.lst xs) => some (true, xs)
    | some (.tup xs) => some (false, xs)
    | some (.tpl xs) => some (false, xs)
    | _ => none
  | .dat (.list ds) => some (true, ds.map ofPd)
  | .dat (.tuple ds) => some (false, ds.map ofPd)
  | _ => none
theorem seq_ok (cs : Cs g ρ h H) {u : U} {v : V} {k : Bool} {us : List U} (r : Rl g ρ u v) (e : seqOf u h = some (k, us)) :
    ∃ a vs, v = .ref a ∧ Rls g ρ us vs ∧ (k = true → H a = some (.lst vs)) ∧ (k = false → SqT g.K H a vs) := by
  unfold seqOf at e
  split at e
  · split at e
    · rename_i n xs en
      cases e
      obtain ⟨a, vs, rfl, ea, rv, ha⟩ := cs.lst en r
      exact ⟨a, vs, rfl, rv, fun _ => ha, fun z => (nomatch z)⟩
    · rename_i n xs en
      cases e
      obtain ⟨a, vs, o, rfl, ea, rv, _, ha⟩ := cs.tup en r
      exact ⟨a, vs, rfl, rv, fun z => (nomatch z), fun _ => .inl (.inr ⟨o, ha⟩)⟩
    · rename_i n xs en
      cases e
      obtain ⟨a, vs, rfl, ea, rv, ha⟩ := cs.tpl en r
      exact ⟨a, vs, rfl, rv, fun z => (nomatch z), fun _ => SqT.of ha⟩
    · cases e
  · cases e
    cases r.2 with
    | lst hs ha => exact ⟨_, _, rfl, ofs_ok ha, fun _ => cs.fzH _ _ hs, fun z => (nomatch z)⟩
  · cases e
    cases r.2 with
    | tup hs ha => exact ⟨_, _, rfl, ofs_ok ha, fun z => (nomatch z), fun _ => (DT.hle hs cs.fzH).sq⟩
  · cases e
/-- a frozen new tuple, a frozen new list -/
theorem madeT {E : XK} {Q : V → Hp → Prop} {us : List U} {vs : List V} {ds : List PyData} {p : Addr} {o : Obj} (e : pdsOf us = some ds) (r : Rls g ρ us vs) (q : Post g (Rl g) ρ (.ok (.dat (.tuple ds)) h) Q E) (c : Cs g ρ h H) (ho : o.dict = none) (hp : H p = none) : Q (.ref p) (upd H p (.frz o (.tup vs))) :=
  Post.madeF q c hp (fun _ _ z => by cases z) fun le same => ⟨rfl, .tup (.inl ⟨o, same, ho⟩) (DqAll.hle le.fz _ _ (pds_ok r e))⟩
theorem madeL {E : XK} {Q : V → Hp → Prop} {us : List U} {vs : List V} {ds : List PyData} {p : Addr} (e : pdsOf us = some ds) (r : Rls g ρ us vs) (q : Post g (Rl g) ρ (.ok (.dat (.list ds)) h) Q E) (c : Cs g ρ h H) (hp : H p = none) : Q (.ref p) (upd H p (.lst vs)) :=
  Post.madeF q c hp (fun _ _ z => by cases z) fun le same => ⟨rfl, .lst same (DqAll.hle le.fz _ _ (pds_ok r e))⟩
/-- a new tuple: frozen if it can be -/
def newT (us : List U) (h : Mh) : R U := match pdsOf us with
  | some ds => .ok (.dat (.tuple ds)) h
  | none => newO (.tup us) h
def newL (us : List U) (h : Mh) : R U := match pdsOf us with
  | some ds => .ok (.dat (.list ds)) h
  | none => .stuck
theorem newT_ok {E : XK} {Q : V → Hp → Prop} {us : List U} {vs : List V} {p : Addr} {o : Obj} (r : Rls g ρ us vs) (q : Post g (Rl g) ρ (newT us h) Q E) (c : Cs g ρ h H) (ho : o.dict = none) (hp : H p = none) : Q (.ref p) (upd H p (.frz o (.tup vs))) := by
  unfold newT at q
  cases e : pdsOf us with
  | some ds => rw [e] at q; exact madeT e r q c ho hp
  | none => rw [e] at q; exact Post.made q c hp ⟨vs, o, Rls.mono (pre_snoc _ _) r, ho, upd_same⟩
theorem newL_ok {E : XK} {Q : V → Hp → Prop} {us : List U} {vs : List V} {p : Addr} (r : Rls g ρ us vs) (q : Post g (Rl g) ρ (newL us h) Q E) (c : Cs g ρ h H) (hp : H p = none) : Q (.ref p) (upd H p (.lst vs)) := by
  unfold newL at q
  cases e : pdsOf us with
  | some ds => rw [e] at q; exact madeL e r q c hp
  | none => rw [e] at q; exact q.elim
end
/-! ### displays -/
def mTd (a : Ml) : Me := fun s h => (a s h).bind fun us h1 => if okLen us.length then newT us h1 else .stuck
def mLd (a : Ml) : Me := fun s h => (a s h).bind fun us h1 => if okLen us.length then newL us h1 else .stuck
section
variable {X : Cx} {g : Gc} {W : WX} {a b c e : Expr} {A B Cc : Me} {pos : Pos} {es : List Expr} {L : Ml}
theorem e_tupD {x1} (h : PA X es (TL g W L)) : PE X (.Tuple es x1 pos) (T g W (mTd L)) := by
  refine PE.im (pe_tupX h) fun σ H Q q => At.seq (rel := Rls g) q fun ρ1 xs s h1 vs H1 hs1 c1 r1 p1 => ?_
  cases eo : okLen xs.length with
  | true =>
    rw [eo, if_pos rfl] at p1
    exact ⟨by rw [← Paired.length r1]; exact okLen_line eo, fun p o ho hp => newT_ok r1 p1 c1 ho hp⟩
  | false => rw [eo, if_neg Bool.false_ne_true] at p1; exact p1.elim
theorem e_lstD (h : PA X es (TL g W L)) : PE X (.List es pos) (T g W (mLd L)) := by
  refine PE.im (pe_lst h) fun σ H Q q => At.seq (rel := Rls g) q fun ρ1 xs s h1 vs H1 hs1 c1 r1 p1 => ?_
  cases eo : okLen xs.length with
  | true =>
    rw [eo, if_pos rfl] at p1
    exact ⟨by rw [← Paired.length r1]; exact okLen_line eo, fun p hp => newL_ok r1 p1 c1 hp⟩
  | false => rw [eo, if_neg Bool.false_ne_true] at p1; exact p1.elim

end
end Vm

set_option Elab.async false
set_option linter.all false
set_option maxRecDepth 100000
set_option maxHeartbeats 4100000
namespace Vm
open L2 PyProof.Rows PySem PySem.Spec

/-! ### xs[::-1], t[::-1] -/
theorem adj_rev (n : Nat) : Builtin.Slice.sliceAdjust none none (-1) (n : Int) = ((n : Int) - 1, -1) := by
  unfold
         Builtin.Slice.sliceAdjust
  have h1 : ((-1 : Int) < 0) := by decide
  simp only [h1, if_true]
theorem places_rev (n : Nat) : Builtin.Slice.slicePlaces ((n : Int) - 1) (-1) (-1) = n := by
  unfold
         Builtin.Slice.slicePlaces
  have h1 : ¬ ((-1 :
                     Int) > 0) := by decide
  have e : ((n : Int) - 1 - -1 - 1) / - -1 = (n : Int) - 1 := by
    rw [show (- -1 : Int) =
                            1 by decide, Int.ediv_one]
    omega
  simp only [h1, if_false, e]
  split <;> omega
theorem fm_congr {α β : Type} {f g : α → Option β} : ∀ {l : List α}, (∀ x ∈ l, f x = g x) → l.filterMap f = l.filterMap g
  | [], _ => rfl
  | a :: l, h => by rw [List.filterMap_cons, List.filterMap_cons, h a List.mem_cons_self, fm_congr fun x hx => h x (List.mem_cons_of_mem _ hx)]
theorem pick_rev (xs : List Value) : ((List.range xs.length).filterMap fun (m : Nat) => xs.toArray[(((xs.length : Int) - 1) + (m : Int) * -1).toNat]?).toArray = xs.reverse.toArray := by
  have h := PySem.W.krv_all xs.reverse.toArray
  rw [List.size_toArray, List.length_reverse] at h
  refine congrArg List.toArray ?_
  rw [show xs.reverse = xs.reverse.toArray.toList from by simp, ← h]
  refine fm_congr fun m hm => ?_
  have hm := List.mem_range.mp hm
  have e : (((xs.length : Int) - 1) + (m : Int) * -1).toNat = xs.length - 1 - m := by omega
  rw [e]
  simp [List.getElem?_reverse hm]
section
variable {prog : Program} {w : World} {A :
                                           Around} {E : Value → Shared → Prop} {s : Shared}
theorem applied_rev {sl : Addr} {k : Tok} {n : Nat} {Q : Int × Int × Nat → Shared → Prop} (hs : s.heap.IsSliceOf sl .none .none (.int (-1) k))
    (h : Q ((n : Int) - 1, -1, n) s) : wpAny (model prog w) A (Builtin.Slice.sliceApplied (.ref sl) (pure (n : Int))) Q E s := by
  obtain ⟨os, hos,
                   hcs, hds⟩ := id hs
  unfold Builtin.Slice.sliceApplied
                                    Builtin.Slice.sliceFields
  refine wpAny_bind (wpAny_bind (wpAny_field hos hds (x := .none) rfl (wpAny_bind (wpAny_field hos hds (x := .none) rfl (wpAny_bind (wpAny_field hos hds (x := .int (-1) k) rfl (wpAny_pure ?_)))))))
  refine wpAny_bind (slicePart_int ?_)
  show wpAny _ _ (if ((-1 : Int) == 0) = true then _ else _) _ _ s
  rw [if_neg (by decide)]
  refine wpAny_bind (slicePart_none (wpAny_bind (slicePart_none (wpAny_bind (wpAny_pure ?_)))))
  show wpAny _ _ (match Builtin.Slice.sliceAdjust none none (-1) (n : Int) with | (lo, hi) => pure (lo, (-1 : Int), Builtin.Slice.slicePlaces lo hi (-1))) _ _ s
  rw [adj_rev n]
  show wpAny _ _ (pure ((n : Int) - 1, (-1 : Int), Builtin.Slice.slicePlaces ((n : Int) - 1) (-1) (-1))) _ _ s
  rw [places_rev]
  exact wpAny_pure h
theorem item_tup_rev {t sl : Addr} {items : List Value} {k : Tok} {Q : Value → Shared → Prop} (ht : IsTup s.heap t items.toArray) (hs : s.heap.IsSliceOf sl .none .none (.int (-1) k))
    (h : Q (.ref s.heap.objs.size) { s with heap := s.heap.push { cls := .type "tuple", data := .seq items.reverse.toArray } })
    (hsz : items.length ≤ sizeLine) : wpAny (model prog w) A (getItem (.ref t) (.ref sl)) Q E s := by
  have htake : sizeOk (.seq items.reverse.toArray) := by
    show items.reverse.toArray.size ≤ sizeLine
    rw [List.size_toArray, List.length_reverse]
    exact hsz
  obtain ⟨os, hos,
                   hcs, hds⟩ := id hs
  have hTs : s.TypeIs (.ref
                            sl) "slice" := ⟨os, hos, hcs⟩
  unfold getItem
  try with_reducible
                     refine wpAny_holding ?_
  first | refine wpAny_bind
                            (wpAny_pure ?_) | skip
  refine wpAny_bind (wpAny_sequenceKey
                                       ht.typeIs (by decide) ?_)
  refine wpAny_bind (wpAny_callSpecial?_slot (name := Str.ofString
                                                                   "__getitem__") ht.typeIs PyProof.Rows.slot_tuple_getitem
    (wpAny_call_entry PyProof.Rows.slot_tuple_getitem
                                                      ht.typeIs entry_tuple_getitem ?_ (args_tuple_getitem _ _)))
  show wpAny _ _ (Builtin.Tuple.tupleItemsOf
                                             (.ref t) >>= _) _ _ s
  refine wpAny_bind
                    (tupleItemsOf_ ht ?_)
  refine wpAny_bind
                    (wpAny_typeOf hTs ?_)
  rw [if_pos (by decide)]
  refine wpAny_bind (applied_rev (n := items.toArray.size) hs ?_)
  have e := pick_rev items
  have es : items.toArray.size = items.length := List.size_toArray ..
  have hno : ¬ (((((items.toArray.size : Nat) : Int) - 1) == 0 && (-1 : Int) == 1 && items.toArray.size == items.toArray.size) = true) := by
    intro q
    rw [Bool.and_eq_true,
                          Bool.and_eq_true] at q
    exact absurd q.1.2 (by decide)
  show wpAny _ _ (if ((((items.toArray.size : Nat) : Int) - 1) == 0 && (-1 : Int) == 1 && items.toArray.size == items.toArray.size) = true then _ else _) _ _ s
  rw [if_neg hno]
  show wpAny _ _ (Builtin.Tuple.tupleExact ((List.range items.toArray.size).filterMap fun (m : Nat) => items.toArray[(((items.toArray.size : Int) - 1) + (m : Int) * -1).toNat]?).toArray >>= _) _ _ s
  rw [es, e]
  first
    | exact wpAny_bind (m := Builtin.Tuple.tupleExact _)
                                                         (wpAny_newObj_type (wpAny_pure ⟨_, rfl, wpAny_pure h⟩) htake)
    | exact wpAny_bind (m := Builtin.Tuple.tupleExact _) (wpAny_newObj_type
                                                                            (wpAny_bind (wpAny_pure (wpAny_pure ⟨_, rfl, wpAny_pure h⟩))) htake)
    | exact wpAny_bind (wpAny_bind (m := Builtin.Tuple.tupleExact _)
                                                                     (wpAny_newObj_type (wpAny_pure (wpAny_pure ⟨_, rfl, wpAny_pure h⟩)) htake))
    | exact wpAny_bind (wpAny_bind (m := Builtin.Tuple.tupleExact _)
                                                                     (wpAny_newObj_type (wpAny_pure ⟨_, rfl, wpAny_pure h⟩) htake))
end
def tRev (K : PySem.W.Frag) (te : TE) : TE := fun σ H Q => te σ H fun x H1 => ∃ a xs, x = .ref a ∧ ((SqL K H1 a xs ∧ ∀ p, H1 p = none → Q (.ref p) (upd H1 p (.lst xs.reverse))) ∨ (SqT K H1 a xs ∧ ∀ p o, o.dict = none → H1 p = none → Q (.ref p) (upd H1 p (.frz o (.tup xs.reverse)))))
theorem Vals.rev : ∀ {xs : List V} {us : List Value}, Vals xs us → Vals xs.reverse us.reverse
  | _, _, .nil => .nil
  | x :: xs, u :: us, .cons r t => by rw [List.reverse_cons, List.reverse_cons]; exact (Vals.rev t).append (.cons r .nil)
theorem Paired.rev {α β : Type} {F : α → β → Prop} : ∀ {xs : List α} {ys : List β}, Paired F xs ys → Paired F xs.reverse ys.reverse
  | _, _, .nil => .nil
  | x :: xs, y :: ys, .cons r t => by rw [List.reverse_cons, List.reverse_cons]; exact Paired.app (Paired.rev t) (.cons r .nil)
section
variable {X : Cx} {e : Expr} {te : TE} {pos p2 p3 p4 : Pos} {kj : Nat}
theorem pe_rev (he : PE X e te) : PE X (.Subscript e (.Slice none none (some (.UnaryOp .USub (.Constant (.int 1) kj p4) p3)) p2) pos) (tRev X.K te) := by
  refine ⟨fun pins
                   s σ H Q I h => ?_⟩
  refine Subscript_ (thn (he.run pins s σ H
                                            _ I h) fun v s1 ⟨x, H1, I1, r1, q1⟩ => ?_)
  refine wpAny_Slice ?_
  rw [evalPart_none]
  refine wpAny_pure
                    (wpAny_pure ?_)
  rw [evalPart_some]
  have hm : PE X (.UnaryOp .USub (.Constant (.int 1) kj p4) p3) _ := pe_un un_neg pe_int
  refine thn (hm.run pins s1 σ H1 (fun z H2 => z = .int (-1) ∧ H2 = H1) I1 ⟨1, rfl, rfl, rfl⟩) fun vk s2 ⟨z, H2, I2, rz, ez, eH⟩ => ?_
  subst ez eH
  obtain ⟨k, rfl⟩ := rz
  obtain ⟨a, xs, rfl, q⟩ := q1
  cases r1
  have I3 : Inv X pins σ H2 { s2 with heap := s2.heap.push { cls := .type "slice", data := .fields #[.none, .none, .int (-1) k] } } := I2.kept (t' := s2.toks) fun b ob q => Heap.get?_push_of_some _ q
  have hs : ({ s2 with heap := s2.heap.push { cls := .type "slice", data := .fields #[.none, .none, .int (-1) k] } } : Shared).heap.IsSliceOf s2.heap.objs.size .none .none (.int (-1) k) := Heap.IsSliceOf.new ..
  show wpAny (model X.prog X.w) X.A (subscriptTail e _ (.ref a) (.ref s2.heap.objs.size)) (EP X pins σ Q) X.xe { s2 with heap := s2.heap.push { cls := .type "slice", data := .fields #[.none, .none, .int (-1) k] } }
  generalize hgen : ({ s2 with heap := s2.heap.push { cls := .type "slice", data := .fields #[.none, .none, .int (-1) k] } } : Shared) = s3 at I3 hs ⊢
  rcases q with ⟨hx, q⟩ | ⟨hx, q⟩
  · obtain ⟨its, r, ht, hz⟩ := I3.list hx
    have hlen := r.length
    refine tail_any (ops := [.ref a, .ref s2.heap.objs.size]) ht.isList.typeIs slot_list_getitem.lookup ?_ (by with_unfolding_all rfl)
    refine wpAny_getItem_list_slice ht.isList hs .none .none (.int (-1) k) (by simp) ?_ (by rw [List.size_toArray] <;> omega)
    rw [PySem.W.krv_pick]
    refine ⟨.ref s3.heap.objs.size, _, I3.laid (t' := s3.toks) (o := .lst xs.reverse) (fun b ob q => Heap.get?_push_of_some _ q) (Nat.le_refl _) ?_, rfl, q _ (I3.hok.fresh (Nat.le_refl _))⟩
    exact ⟨by rw [List.length_reverse]; exact hz, its.reverse, 0, Vals.rev r, Heap.get?_push_size _ rfl⟩
  · obtain ⟨its, r, ht, hz⟩ := I3.tuple hx
    have hlen := r.length
    refine tail_any (ops := [.ref a, .ref s2.heap.objs.size]) ht.typeIs PyProof.Rows.slot_tuple_getitem.lookup ?_ (by with_unfolding_all rfl)
    refine item_tup_rev ht hs ?_ (by omega)
    exact ⟨.ref s3.heap.objs.size, _, tup_laid I3 (Vals.rev r) (by rw [List.length_reverse]; exact hz), rfl, q _ _ rfl (I3.hok.fresh (Nat.le_refl _))⟩
end
end Vm

set_option Elab.async false
set_option linter.all false
set_option maxRecDepth 100000
set_option maxHeartbeats 4100000
namespace Vm
open L2 PyProof.Rows PySem PySem.Spec

/-! ### operations whose lists and tuples are frozen -/
def fRev : U → Mh → R U := fun u h => match seqOf u h with
  | some (true, us) => newL us.reverse h
  | some (false, us) => newT us.reverse h
  | none => .stuck
def fAddD : F2 := fun x y h => match x, y with
  | .int i, .int j => .ok (.int (i + j)) h
  | .str a, .str b => if okLen (a.length + b.length) then .ok (.str (a ++ b)) h else .stuck
  | x, y => match seqOf x h, seqOf y h with
    | some (true, xs), some (true, ys) => if okLen (xs.length + ys.length) then newL (xs ++ ys) h else .stuck
    | some (false, xs), some (false, ys) => if okLen (xs.length + ys.length) then (match xs, ys with
      | [], _ => .ok y h
      | _ :: _, [] => .ok x h
      | x :: xs, y :: ys => newT ((x :: xs) ++ (y :: ys)) h) else .stuck
    | _, _ => .stuck
def fMulD : F2 := fun x y h => match x, y with
  | .int i, .int j => if decide ((-(2 ^ 64) < i ∧ i < 2 ^ 64) ∨ (-(2 ^ 64) < j ∧ j < 2 ^ 64)) then .ok (.int (i * j)) h else .stuck
  | x, .int k => match seqOf x h with
    | some (true, xs) => if decide (-(2 ^ 63) ≤ k ∧ k < 2 ^ 63) && okLen (xs.length * k.toNat) then newL (List.replicate k.toNat xs).flatten h else .stuck
    | some (false, xs) => if !xs.isEmpty && decide (2 ≤ k ∧ k ≤ 1000) && decide (xs.length ≤ 1000) then (match pdsOf (List.replicate k.toNat xs).flatten with
      | some ds => .ok (.dat (.tuple ds)) h
      | none => .stuck) else .stuck
    | none => .stuck
  | _, _ => .stuck
def fIxD (ns : List Int) : F2 := fun x y h => match y with
  | .int i => match x with
    | .str z => if okLen z.length then (match atI z.cps.toList i with
      | some c => .ok (.str ⟨#[c]⟩) h
      | none => .stuck) else .stuck
    | .scr => match atI ns i with
      | some k => .ok (.int k) h
      | none => .stuck
    | x => match seqOf x h with
      | some (_, xs) => match atI xs i with
        | some u => .ok u h
        | none => .stuck
      | none => .stuck
  | _ => .stuck
def fSlD (x : U) (lo hi : Option Int) (h : Mh) : R U := match seqOf x h with
  | some (true, xs) => newL (cutU xs lo hi) h
  | some (false, xs) => if HT.sIx xs.length 0 lo = 0 ∧ HT.sIx xs.length xs.length hi = xs.length then .ok x h else newT (cutU xs lo hi) h
  | none => .stuck
def mSlD (a : Me) (l u : Mo) : Me := fun s h => (a s h).bind fun x h1 => (l s h1).bind fun lo h2 => (u s h2).bind fun hi h3 => fSlD x lo hi h3
def fLenD (ns : List Int) : List U → Mh → R U := fun us h => match us with
  | [.str z] => if okLen z.length then .ok (.int z.length) h else .stuck
  | [.scr] => .ok (.int ns.length) h
  | [x] => match seqOf x h with
    | some (_, xs) => .ok (.int xs.length) h
    | none => .stuck
  | _ => .stuck
def fAllD : List U → Mh → R U := fun us h => match us with
  | [x] => match seqOf x h with
    | some (true, xs) => match blsOf xs with
      | some bs => .ok (.bl (bs.all id)) h
      | none => .stuck
    | _ => .stuck
  | _ => .stuck
def fAnyD : List U → Mh → R U := fun us h => match us with
  | [x] => match seqOf x h with
    | some (true, xs) => match blsOf xs with
      | some bs => .ok (.bl (bs.any id)) h
      | none => .stuck
    | _ => .stuck
  | _ => .stuck
def fTupD : List U → Mh → R U := fun us h => match us with
  | [x] => match seqOf x h with
    | some (true, xs) => newT xs h
    | some (false, _) => .ok x h
    | none => .stuck
  | _ => .stuck
/-- list(..), frozen; list(..), to be changed -/
def fLstD : List U → Mh → R U := fun us h => match us with
  | [x] => match seqOf x h with
    | some (_, xs) => newL xs h
    | none => .stuck
  | _ => .stuck
def fLstM : List U → Mh → R U := fun us h => match us with
  | [x] => match seqOf x h with
    | some (_, xs) => newO (.lst xs) h
    | none => .stuck
  | _ => .stuck
section
variable {X : Cx} {g : Gc} {W : WX} {A B Cc : Me} {e a b c : Expr} {pos p2 p3 p4 : Pos} {kj : Nat}
theorem e_rev (hK : X.K = g.K := by assumption) (he : PE X e (T g W A)) : PE X (.Subscript e (.Slice none none (some (.UnaryOp .USub (.Constant (.int 1) kj p4) p3)) p2) pos) (T g W (m1 fRev A)) := by
  refine PE.im (pe_rev he) fun σ H Q q => At.seq (rel := Rl g) q fun ρ1 x s h1 v H1 hs1 c1 r1 p1 => ?_
  unfold fRev at p1
  split at p1
  · rename_i us es
    obtain ⟨a, vs, rfl, rv, k1, _⟩ := seq_ok c1 r1 es
    exact ⟨a, vs, rfl, .inl ⟨SqL.of (k1 rfl), fun p hp => newL_ok (Paired.rev rv) p1 c1 hp⟩⟩
  · rename_i us es
    obtain ⟨a, vs, rfl, rv, _, k2⟩ := seq_ok c1 r1 es
    exact ⟨a, vs, rfl, .inr ⟨by rw [hK]; exact k2 rfl, fun p o ho hp => newT_ok (Paired.rev rv) p1 c1 ho hp⟩⟩
  · exact p1.elim
theorem s_addD {K : PySem.W.Frag} (hK : K = g.K := by assumption) : S2 g fAddD (rAddAll K) := fun E ρ x y vx vy h H Q rx ry cs p => by
  subst hK
  unfold fAddD at p
  split at p
  · exact .inl ⟨_, _, rx, ry, Post.here (rel := Rl g) p cs rfl⟩
  · rename_i i j
    cases eo : okLen (i.length + j.length) with
    | true => rw [eo, if_pos rfl] at p; exact .inr (.inl ⟨i, j, rx, ry, okLen_line eo, Post.here (rel := Rl g) p cs rfl⟩)
    | false => rw [eo, if_neg Bool.false_ne_true] at p; exact p.elim
  · split at p
    · rename_i xs ys e1 e2
      obtain ⟨a, vs, rfl, rv, ha, _⟩ := seq_ok cs rx e1
      obtain ⟨b, ws, rfl, rw', hb, _⟩ := seq_ok cs ry e2
      cases eo : okLen (xs.length + ys.length) with
      | true =>
        rw [eo, if_pos rfl] at p
        exact .inr (.inr (.inl ⟨a, b, vs, ws, rfl, rfl, ha rfl, hb rfl, by rw [← Paired.length rv, ← Paired.length rw']; exact okLen_line eo, fun q hq => newL_ok (Paired.app rv rw') p cs hq⟩))
      | false => rw [eo, if_neg Bool.false_ne_true] at p; exact p.elim
    · rename_i xs ys e1 e2
      obtain ⟨a, vs, rfl, rv, _, ha⟩ := seq_ok cs rx e1
      obtain ⟨b, ws, rfl, rw', _, hb⟩ := seq_ok cs ry e2
      cases eo : okLen (xs.length + ys.length) with
      | true =>
        rw [eo, if_pos rfl] at p
        refine .inr (.inr (.inr ⟨a, b, vs, ws, rfl, rfl, ha rfl, hb rfl, by rw [← Paired.length rv, ← Paired.length rw']; exact okLen_line eo, fun e0 => ?_, fun e0 e1 => ?_, fun e0 e1 q o ho hq => ?_⟩))
        · subst e0
          cases rv
          exact Post.here (rel := Rl g) p cs ry
        · subst e1
          cases rw'
          cases rv with
          | nil => exact absurd rfl e0
          | cons _ _ => exact Post.here (rel := Rl g) p cs rx
        · cases rv with
          | nil => exact absurd rfl e0
          | cons r1 r2 =>
            cases rw' with
            | nil => exact absurd rfl e1
            | cons r3 r4 => exact newT_ok (Paired.app (.cons r1 r2) (.cons r3 r4)) p cs ho hq
      | false => rw [eo, if_neg Bool.false_ne_true] at p; exact p.elim
    · exact p.elim
def rRepX (K : PySem.W.Frag) : R2 := fun x y H Q => ∃ l k xs, x = .ref l ∧ y = .int k ∧ SqT K H l xs ∧ xs ≠ [] ∧ 2 ≤ k ∧ k ≤ 1000 ∧ xs.length ≤ 1000 ∧ ∀ p o, o.dict = none → H p = none → Q (.ref p) (upd H p (.frz o (.tup (List.replicate k.toNat xs).flatten)))
theorem op_repX : OpR X (binaryOp .Mult) (rRepX X.K) := by
  intro pins s σ H x
                     y v u Q I rx ry h
  obtain ⟨l, k, xs, rfl, rfl,
                              hT, hne, h1, h2, hz, q⟩ := h
  cases rx
  obtain ⟨t, rfl⟩ := ry
  obtain ⟨its, r, ⟨⟨cls, dd, data, sl⟩,
                                        ho, hc, n, hd⟩, hs⟩ := I.tuple hT
  simp only at hc hd
  subst hc hd
  have hle : its.length =
                          xs.length := r.length.symm
  have hn : its ≠ []
                     := fun e => hne (by
    rw [e] at hle
    exact List.eq_nil_of_length_eq_zero
                                        hle.symm)
  have hi : its.toArray.isEmpty
                                = false := by
    cases its with
    | nil => exact absurd rfl hn
    | cons a b => rfl
  have hsz0 : its.toArray.size = xs.length
                                           := by rw [List.size_toArray, hle]
  have hm : ((its.toArray.size :
                                 Nat) : Int) * k ≤ 1000000 := by
    rw [hsz0]
    have a1 : ((xs.length : Nat) : Int) * k ≤ 1000 * k :=
                                                          Int.mul_le_mul_of_nonneg_right (by omega) (by omega)
    omega
  have flen : (List.replicate k.toNat
                                      its).flatten.length ≤ sizeLine := by
    rw [PyProof.Rows.lm_len_rep_flat,
                                      hle, sizeLine_eq]
    have a1 : k.toNat * xs.length ≤ 1000
                                         * 1000 := Nat.mul_le_mul (by omega) hz
    omega
  have c0 : (decide (k < -(2 ^ 63)) ||
                                       decide (k ≥ 2 ^ 63)) = false := by
    rw [decide_eq_false (by omega),
                                    decide_eq_false (by omega)] <;> rfl
  have c1 : (its.toArray.isEmpty
                                 || k == 1) = false := by
    rw [hi, Bool.false_or]
    exact beq_eq_false_iff_ne.mpr
                                  (by omega)
  have c2 : (decide (k ≤ 0) ||
                               its.toArray.isEmpty) = false := by
    rw [hi, Bool.or_false]
    exact decide_eq_false
                          (by omega)
  have c4 : Builtin.Tuple.tupleTooMany
                                       (((its.toArray.size : Nat) : Int) * k) = false := by
    unfold
           Builtin.Tuple.tupleTooMany
    rw [sizeLine_eq]
    exact decide_eq_false
                          (by omega)
  refine wpAny_binaryOp_repeat_ref (T := "tuple") (U := "int") (by decide) ⟨_, ho, rfl⟩ (fun s' =>
                                                                                                   typeIs_int s' k t) noFill_tuple_mul F.fills_int_mul F.slot_int_rmul repeat_tuple F.slot_int_index.lookup
    (call_meets F.slot_int_rmul (typeIs_int s k t) F.entry_int_rmul
                                                                    (F.args_int_rmul_2 _ _) (int_rmul_tuple k t l its.toArray n dd sl)
      ⟨ho, rfl, ⟨_, ho, rfl⟩, call_meets F.slot_tuple_mul ⟨_, ho, rfl⟩ F.entry_tuple_mul (F.args_tuple_mul_2 _ _) (tuple_mulW
                                                                                                                              l its.toArray n dd sl k t c0 c1 c2 (by omega) c4 (by rw [size_rep, List.size_toArray]; exact flen)) ⟨ho, ?_⟩⟩)
  rw [size_rep]
  exact ⟨.ref s.heap.objs.size, _, tup_laid I (r.rep k.toNat) (by rw [PyProof.Rows.lm_len_rep_flat, sizeLine_eq]; have a1 : k.toNat * xs.length ≤ 1000 * 1000 := Nat.mul_le_mul (by omega) hz; omega), rfl, q _ _ rfl (I.hok.fresh (Nat.le_refl _))⟩
abbrev rMulD (K : PySem.W.Frag) : R2 := fun x y H Q => rMulAll x y H Q ∨ rRepX K x y H Q
theorem o_mulD : OpR X (binaryOp .Mult) (rMulD X.K) := OpR.or o_mul op_repX
theorem s_mulD {K : PySem.W.Frag} (hK : K = g.K := by assumption) : S2 g fMulD (rMulD K) := fun E ρ x y vx vy h H Q rx ry cs p => by
  subst hK
  unfold fMulD at p
  split at p
  · rename_i i j
    by_cases hc : (-(2 ^ 64) < i ∧ i < 2 ^ 64) ∨ (-(2 ^ 64) < j ∧ j < 2 ^ 64)
    · rw [if_pos (decide_eq_true hc)] at p
      exact .inl (.inl ⟨i, j, rx, ry, hc, Post.here (rel := Rl g) p cs rfl⟩)
    · rw [if_neg (by rw [decide_eq_true_eq]; exact hc)] at p
      exact p.elim
  · rename_i k _
    split at p
    · rename_i xs es
      obtain ⟨a, vs, rfl, rv, ha, _⟩ := seq_ok cs rx es
      cases eo : (decide (-(2 ^ 63) ≤ k ∧ k < 2 ^ 63) && okLen (xs.length * k.toNat)) with
      | true =>
        rw [eo, if_pos rfl] at p
        rw [Bool.and_eq_true] at eo
        obtain ⟨h1, h2⟩ := of_decide_eq_true eo.1
        exact .inl (.inr ⟨a, k, vs, rfl, ry, ha rfl, h1, h2, by rw [← Paired.length rv]; exact okLen_line eo.2, fun q hq => newL_ok (Rls.flat rv _) p cs hq⟩)
      | false => rw [eo, if_neg Bool.false_ne_true] at p; exact p.elim
    · rename_i xs es
      obtain ⟨a, vs, rfl, rv, _, ha⟩ := seq_ok cs rx es
      cases eo : (!xs.isEmpty && decide (2 ≤ k ∧ k ≤ 1000) && decide (xs.length ≤ 1000)) with
      | true =>
        rw [eo, if_pos rfl] at p
        rw [Bool.and_eq_true, Bool.and_eq_true] at eo
        obtain ⟨h1, h2⟩ := of_decide_eq_true eo.1.2
        have h3 := of_decide_eq_true eo.2
        refine .inr ⟨a, k, vs, rfl, ry, ha rfl, fun z => ?_, h1, h2, by rw [← Paired.length rv]; exact h3, fun q o ho hq => ?_⟩
        · subst z
          cases rv
          exact absurd eo.1.1 (by decide)
        · cases ep : pdsOf (List.replicate k.toNat xs).flatten with
          | some ds => rw [ep] at p; exact madeT ep (Rls.flat rv _) p cs ho hq
          | none => rw [ep] at p; exact p.elim
      | false => rw [eo, if_neg Bool.false_ne_true] at p; exact p.elim
    · exact p.elim
  · exact p.elim
theorem s_ixD : S2 g (fIxD g.ns) (rIx g.K) := fun E ρ x y vx vy h H Q rx ry cs p => by
  unfold fIxD at p
  split at p
  · rename_i i
    split at p
    · rename_i z
      cases eo : okLen z.length with
      | true =>
        rw [eo, if_pos rfl] at p
        cases ei : atI z.cps.toList i with
        | none => rw [ei] at p; exact p.elim
        | some u =>
          rw [ei] at p
          exact .inr (.inr ⟨z, i, u, rx, ry, okLen_line eo, ei, Post.here (rel := Rl g) p cs rfl⟩)
      | false => rw [eo, if_neg Bool.false_ne_true] at p; exact p.elim
    · cases ei : atI g.ns i with
      | none => rw [ei] at p; exact p.elim
      | some k =>
        rw [ei] at p
        have e2 : atI (g.ns.map V.int) i = some (.int k) := by
          unfold atI at ei ⊢
          rw [List.length_map]
          cases e3 : ixN g.ns.length i with
          | none => rw [e3] at ei; cases ei
          | some j =>
            rw [e3] at ei
            show (g.ns.map V.int)[j]? = some (.int k)
            rw [List.getElem?_map, show g.ns[j]? = some k from ei]
            rfl
        exact .inl ⟨g.sa, _, i, .int k, rx, ry, cs.sq, e2, Post.here (rel := Rl g) p cs rfl⟩
    · split at p
      · rename_i kk xs es
        obtain ⟨a, vs, rfl, rv, h1, h2⟩ := seq_ok cs rx es
        cases ei : atI xs i with
        | none => rw [ei] at p; exact p.elim
        | some u =>
          rw [ei] at p
          obtain ⟨v, ev, r⟩ := atI_rel rv ei
          have q : Q v H := Post.here (rel := Rl g) p cs r
          cases kk with
          | true => exact .inl ⟨a, vs, i, v, rfl, ry, SqL.of (h1 rfl), ev, q⟩
          | false => exact .inr (.inl ⟨a, vs, i, v, rfl, ry, h2 rfl, ev, q⟩)
      · exact p.elim
  · exact p.elim
theorem e_sliceD {lo hi : Option Expr} {l u : Mo} (hK : X.K = g.K := by assumption) (he : PE X a (T g W A)) (hl : PO X lo (TO' g W l)) (hu : PO X hi (TO' g W u)) : PE X (.Subscript a (.Slice lo hi none p2) pos) (T g W (mSlD A l u)) := by
  refine PE.im (pe_slice sl_all he hl hu) fun σ H Q q => At.seq (rel := Rl g) q fun ρ1 x s h1 v H1 hs1 c1 r1 p1 => ?_
  refine ⟨ρ1, s, h1, hs1, c1, (Post.cut (rel := relO) p1).imp fun o1 H2 ⟨ρ2, o1', h2, e2, c2, r2, p2⟩ => ?_⟩
  cases r2
  refine ⟨ρ2, s, h2, Rsl.mono e2 hs1, c2, (Post.cut (rel := relO) p2).imp fun o2 H3 ⟨ρ3, o2', h3, e3, c3, r3, p3⟩ => ?_⟩
  cases r3
  have r1 : Rl g ρ3 x v := Rl.mono (e2.trans e3) r1
  unfold fSlD at p3
  split at p3
  · rename_i xs es
    obtain ⟨ad, vs, rfl, rv, ha, _⟩ := seq_ok c3 r1 es
    exact .inl ⟨ad, vs, rfl, SqL.of (ha rfl), fun p hp => newL_ok (cut_rel rv) p3 c3 hp⟩
  · rename_i xs es
    obtain ⟨ad, vs, rfl, rv, _, ha⟩ := seq_ok c3 r1 es
    refine .inr ⟨ad, vs, rfl, by rw [hK]; exact ha rfl, ?_⟩
    rw [← Paired.length rv]
    by_cases hw : HT.sIx xs.length 0 o1 = 0 ∧ HT.sIx xs.length xs.length o2 = xs.length
    · rw [if_pos hw] at p3
      exact ⟨fun _ => Post.here (rel := Rl g) p3 c3 r1, fun n => absurd hw n⟩
    · rw [if_neg hw] at p3
      exact ⟨fun n => absurd n hw, fun _ p o ho hp => newT_ok (cut_rel rv) p3 c3 ho hp⟩
  · exact p3.elim
theorem s_lenD : SL g (fLenD g.ns) (rLen g.K) := fun E ρ xs vs h H Q r cs p => by
  unfold fLenD at p
  split at p
  · rename_i z
    obtain ⟨v, rfl, r1⟩ := one_of r
    cases eo : okLen z.length with
    | true =>
      rw [eo, if_pos rfl] at p
      exact .inr ⟨z, by rw [r1], okLen_line eo, Post.here (rel := Rl g) p cs rfl⟩
    | false => rw [eo, if_neg Bool.false_ne_true] at p; exact p.elim
  · obtain ⟨v, rfl, r1⟩ := one_of r
    exact .inl ⟨g.sa, g.ns.map V.int, by rw [r1], .inl cs.sq, by rw [List.length_map]; exact Post.here (rel := Rl g) p cs rfl⟩
  · obtain ⟨v, rfl, r1⟩ := one_of r
    split at p
    · rename_i kk xs es
      obtain ⟨a, vs, rfl, rv, h1, h2⟩ := seq_ok cs r1 es
      have q : Q (.int vs.length) H := by rw [← Paired.length rv]; exact Post.here (rel := Rl g) p cs rfl
      cases kk with
      | true => exact .inl ⟨a, vs, rfl, .inl (SqL.of (h1 rfl)), q⟩
      | false => exact .inl ⟨a, vs, rfl, .inr (h2 rfl), q⟩
    · exact p.elim
  · exact p.elim
theorem s_allD {K : PySem.W.Frag} : SL g fAllD (rAll K) := fun E ρ xs vs h H Q r cs p => by
  unfold fAllD at p
  split at p
  · obtain ⟨v, rfl, r1⟩ := one_of r
    split at p
    · rename_i xs es
      obtain ⟨a, vs, rfl, rv, h1, _⟩ := seq_ok cs r1 es
      split at p
      · rename_i bs eb
        exact ⟨a, bs, rfl, by rw [← bls_rel rv eb]; exact SqL.of (h1 rfl), Post.here (rel := Rl g) p cs rfl⟩
      · exact p.elim
    · exact p.elim
  · exact p.elim
theorem s_anyD {K : PySem.W.Frag} : SL g fAnyD (rAny K) := fun E ρ xs vs h H Q r cs p => by
  unfold fAnyD at p
  split at p
  · obtain ⟨v, rfl, r1⟩ := one_of r
    split at p
    · rename_i xs es
      obtain ⟨a, vs, rfl, rv, h1, _⟩ := seq_ok cs r1 es
      split at p
      · rename_i bs eb
        exact ⟨a, bs, rfl, by rw [← bls_rel rv eb]; exact SqL.of (h1 rfl), Post.here (rel := Rl g) p cs rfl⟩
      · exact p.elim
    · exact p.elim
  · exact p.elim
theorem s_tupD {K : PySem.W.Frag} (hK : K = g.K := by assumption) : SL g fTupD (rTupX K) := fun E ρ xs vs h H Q r cs p => by
  subst hK
  unfold fTupD at p
  split at p
  · obtain ⟨v, rfl, r1⟩ := one_of r
    split at p
    · rename_i xs es
      obtain ⟨a, vs, rfl, rv, h1, _⟩ := seq_ok cs r1 es
      exact ⟨a, vs, rfl, .inl ⟨SqL.of (h1 rfl), fun l o ho hl => newT_ok rv p cs ho hl⟩⟩
    · rename_i xs es
      obtain ⟨a, vs, rfl, rv, _, h2⟩ := seq_ok cs r1 es
      exact ⟨a, vs, rfl, .inr ⟨h2 rfl, Post.here (rel := Rl g) p cs r1⟩⟩
    · exact p.elim
  · exact p.elim
theorem s_lstD {K : PySem.W.Frag} (hK : K = g.K := by assumption) : SL g fLstD (rLst K) := fun E ρ xs vs h H Q r cs p => by
  subst hK
  unfold fLstD at p
  split at p
  · obtain ⟨v, rfl, r1⟩ := one_of r
    split at p
    · rename_i kk xs es
      obtain ⟨a, vs, rfl, rv, h1, h2⟩ := seq_ok cs r1 es
      refine ⟨a, vs, rfl, ?_, fun l hl => newL_ok rv p cs hl⟩
      cases kk with
      | true => exact .inl (SqL.of (h1 rfl))
      | false => exact .inr (h2 rfl)
    · exact p.elim
  · exact p.elim
theorem s_lstM {K : PySem.W.Frag} (hK : K = g.K := by assumption) : SL g fLstM (rLst K) := fun E ρ xs vs h H Q r cs p => by
  subst hK
  unfold fLstM at p
  split at p
  · obtain ⟨v, rfl, r1⟩ := one_of r
    split at p
    · rename_i kk xs es
      obtain ⟨a, vs, rfl, rv, h1, h2⟩ := seq_ok cs r1 es
      refine ⟨a, vs, rfl, ?_, fun l hl => Post.made p cs hl ⟨vs, Rls.mono (pre_snoc _ _) rv, upd_same⟩⟩
      cases kk with
      | true => exact .inl (SqL.of (h1 rfl))
      | false => exact .inr (h2 rfl)
    · exact p.elim
  · exact p.elim
end
end Vm

set_option Elab.async false
set_option linter.all false
set_option maxRecDepth 100000
set_option maxHeartbeats 4100000
namespace Vm
open L2 PyProof.Rows PySem PySem.Spec

/-! ### lists and tuples, walked alike -/
def SqK (k : Bool) (K : PySem.W.Frag) (H : Hp) (a : Addr) (xs : List V) : Prop := match k with
  | true => SqL K H a xs
  | false => SqT K H a xs
def ItK (k : Bool) (h : Heap) (it a : Addr) (i : Nat) : Prop := match k with
  | true => h.IsListIter it a i
  | false => h.IsTupleIter it a i
def SeK (k : Bool) (h : Heap) (a : Addr) (xs : Array Value) : Prop := match k with
  | true => h.IsList a xs
  | false => h.IsTuple a xs
def itO (k : Bool) (a : Addr) : Obj := match k with
  | true => { cls := .type "list_iterator", data := .fields #[.ref a, .int 0 0] }
  | false => { cls := .type "tuple_iterator", data := .fields #[.ref a, .int 0 0] }
theorem ItK.at {k : Bool} {h h' : Heap} {it a : Addr} {i : Nat} (x : ItK k h it a i) (e : ∀ o, h.get? it = some o → h'.get? it = some o) : ItK k h' it a i := by
  cases k with
  | true => exact Heap.IsListIter.at x e
  | false => exact Heap.IsTupleIter.at x e
theorem ItK.obj {k : Bool} {h : Heap} {it a : Addr} {i : Nat} (x : ItK k h it a i) : ∃ o, h.get? it = some o ∧ (∀ v, o.data ≠ .cell v) ∧ (∀ ys n, o.data ≠ .seq ys n) := by
  cases k with
  | true => obtain ⟨o, e, _, d⟩ := x; exact ⟨o, e, fun v q => (by rw [d] at q; cases q), fun _ _ q => (by rw [d] at q; cases q)⟩
  | false => obtain ⟨o, e, _, d⟩ := x; exact ⟨o, e, fun v q => (by rw [d] at q; cases q), fun _ _ q => (by rw [d] at q; cases q)⟩
theorem SeK.obj {k : Bool} {h : Heap} {a : Addr} {xs : Array Value} (x : SeK k h a xs) : ∃ o n, h.get? a = some o ∧ o.data = .seq xs n := by
  cases k with
  | true => obtain ⟨o, e, _, n, d⟩ := x; exact ⟨o, n, e, d⟩
  | false => obtain ⟨o, e, _, n, d⟩ := x; exact ⟨o, n, e, d⟩
theorem SeK.ne {k k' : Bool} {h : Heap} {it a b : Addr} {i : Nat} {xs : Array Value} (x : SeK k h a xs) (y : ItK k' h it b i) : a ≠ it := fun z => by
  subst z
  obtain ⟨o, n, e, d⟩ := x.obj
  obtain ⟨o', e', _, d'⟩ := y.obj
  rw [e] at e'
  cases e'
  exact d' _ _ d
section
variable {X : Cx} {pins : List (Addr × Obj)} {σ : L2.St} {H : Hp} {s : Shared} {a it : Addr} {xs ys : List V} {k : Bool}
theorem SqK.see (I : Inv X pins σ H s) (h : SqK k X.K H a xs) : ∃ its : List Value, Vals xs its ∧ SeK k s.heap a its.toArray ∧ xs.length ≤ sizeLine := by
  cases k with
  | true => obtain ⟨its, r, p, z⟩ := I.list h; exact ⟨its, r, p.isList, z⟩
  | false => obtain ⟨its, r, p, z⟩ := I.tuple h; exact ⟨its, r, p, z⟩
theorem SqK.inj (I : Inv X pins σ H s) (h : SqK k X.K H a xs) (h' : SqK k X.K H a ys) : xs = ys := by
  cases k with
  | true => exact I.list_inj h h'
  | false => exact I.tuple_inj h h'
theorem SqK.lt (I : Inv X pins σ H s) (h : SqK k X.K H a xs) : a < s.heap.objs.size := by
  obtain ⟨its, _, p, _⟩ := h.see I
  obtain ⟨o, n, e, _⟩ := p.obj
  exact Heap.lt_size e
end
theorem drawsK {prog : Program} {w : World} {A : Around} (k : Bool) (hh : A.handled = none) (it t : Addr) (hne : t ≠ it) (items : Array Value) :
    Draws prog w A it [it, t] items.size (fun i v => items[i]? = some v) (fun i h => ItK k h it t i ∧ SeK k h t items) := by
  cases k with
  | true => exact .list hh it t hne items
  | false => exact .tuple hh it t hne items
theorem beginsK (k : Bool) (l : Addr) (items : Array Value) : Begins (.ref l) (itO k l) fun h => SeK k h l items := by
  cases k with
  | true => exact begins_list l items
  | false => exact begins_tuple l items
theorem itO_at {k : Bool} {h : Heap} {it a : Addr} (e : h.get? it = some (itO k a)) : ItK k h it a 0 := by
  cases k with
  | true => exact ⟨_, e, rfl, rfl⟩
  | false => exact ⟨_, e, rfl, rfl⟩

/-! ### for x in s -/
def IteS (k : Bool) (K : PySem.W.Frag) (a : Addr) : It := match k with
  | true => Itl K a
  | false => Itt K a
def iSeq (K : PySem.W.Frag) (td : TE) : TI := fun σ H R => td σ H fun x H1 => ∃ k a, x = .ref a ∧ (∃ xs, SqK k K H1 a xs) ∧ R (IteS k K a) H1
theorem pi_seq {X : Cx} {tg l : Expr} {tl : TE} (hl : PE X l tl) : PI X tg l (iSeq X.K tl) := by
  refine ⟨fun pins
                   s σ H R I h => ?_⟩
  refine thn (hl.run pins s σ H _ I h)
                                       fun v s1 ⟨x, H1, I1, r1, q1⟩ => ?_
  obtain ⟨k, a, e, ⟨xs, hq⟩, q⟩ := q1
  subst e
  cases r1
  cases k with
  | true =>
    obtain ⟨its, rv, p,
                        hz⟩ := I1.list hq
    refine wpAny_pyIter_list
                             p.isList ?_
    refine ⟨s1.heap.objs.size, [s1.heap.objs.size], _, _, H1, rfl, I1.kept (t' := s1.toks) fun b o e =>
                                                                                                        Heap.get?_push_of_some _ e, turn_list a _, ⟨_, Heap.get?_push_size _ rfl, rfl, rfl⟩, fun b hb => ?_, q⟩
    have e : b = s1.heap.objs.size
                                   := by simpa using hb
    subst e
    exact I1.fpOk (Nat.le_refl _)
                                  (I1.hok.fresh (Nat.le_refl _))
  | false =>
    obtain ⟨its, rv, p,
                        hz⟩ := I1.tuple hq
    refine wpAny_pyIter_tuple (show
                                    s1.heap.IsTuple a its.toArray from p) ?_
    refine ⟨s1.heap.objs.size, [s1.heap.objs.size], _, _, H1, rfl, I1.kept (t' := s1.toks) fun b o e =>
                                                                                                        Heap.get?_push_of_some _ e, turn_tuple a _, ⟨_, Heap.get?_push_size _ rfl, rfl, rfl⟩, fun b hb => ?_, q⟩
    have e : b = s1.heap.objs.size
                                   := by simpa using hb
    subst e
    exact I1.fpOk (Nat.le_refl _)
                                  (I1.hok.fresh (Nat.le_refl _))

/-! ### enumerate(s) -/
set_option maxHeartbeats 4000000 in
theorem meets_enum1 {v : Value} {o : Obj} {H : Heap → Prop} (B : Begins v o H) :
    Meets (Builtin.«enumerate.__new__» ⟨[.type "enumerate", v], []⟩) (fun _ R s => H s.heap ∧
      R (.ok (.ret (.ref (s.heap.push o).objs.size))) { s with heap := (s.heap.push o).push { cls := .type "enumerate", data := .fields #[.none, .bool false, .ref s.heap.objs.size, rawInt 0, .none, .none] } }) :=
  .of_wp fun prog
                  w A R s h => by
    obtain ⟨hp, g, d, tk, os⟩
                              := s; obtain ⟨h1, h⟩ := h
    have hsub := sub_enumerate
    have q1 : ∀ {A' : Around} {E : Value → Shared → Prop} {Q : Value → Shared → Prop}, Q (.ref
                                                                                               hp.objs.size) ⟨hp.push o, g, d, tk, os⟩ → wpAny (model prog w) A' (pyIter v) Q E ⟨hp, g, d, tk, os⟩ :=
      fun q => B.iter prog w _ _
                                 ⟨hp, g, d, tk, os⟩ _ h1 q
    wp_walk using q1
    refine wpAny_stack_any
                           fun st => wpAny_pure ?_
    split
    · rename_i c _ _ _ _ _
      cases (c == Value.type
                             "enumerate")
      · wp_walk using q1
        exact ⟨_, rfl, h⟩
      · wp_walk using q1
        exact ⟨_, rfl, h⟩
    · wp_walk using q1
      exact ⟨_, rfl, h⟩
section
variable {prog : Program} {w : World} {A :
                                           Around} {E : Value → Shared → Prop} {s : Shared}
theorem enum1_begins {v : Value} {o : Obj} {H : Heap → Prop} {Q : Value → Shared → Prop} (B : Begins v o H) (h1 : H s.heap)
    (h : ∀ h', IsEnum h' (s.heap.objs.size + 1) s.heap.objs.size 0 .none → h'.get? s.heap.objs.size = some o → h'.objs.size = s.heap.objs.size + 2 →
      (∀ b o, s.heap.get? b = some o → h'.get? b = some o) → Q
                                                               (.ref (s.heap.objs.size + 1)) { s with heap := h' }) :
    wpAny (model prog w) A (call (.type "enumerate") [v]) Q E s := by
  refine callType_new F.called_enumerate (by decide) (F.typeCall_enumerate_1 _)
                                                                                (F.newCall_enumerate_1 _) (fun obj => F.args_object_init_2 obj _) F.entry_enumerate_new
    (meets_enum1 B) ⟨h1, ?_⟩
  have hz : (s.heap.push o).objs.size =
                                        s.heap.objs.size + 1 := Heap.size_push ..
  show _ ∧ _
  rw [hz]
  have he : IsEnum ((s.heap.push o).push { cls := .type "enumerate", data := .fields #[.none, .bool false, .ref s.heap.objs.size, rawInt 0, .none, .none] }) (s.heap.objs.size + 1) s.heap.objs.size 0 .none := by
    have := Heap.get?_push_size (s.heap.push o) (o := { cls := .type "enumerate", data := .fields #[.none, .bool false, .ref s.heap.objs.size, rawInt 0, .none, .none] }) rfl
    rw [hz] at this; exact this
  refine ⟨⟨_, he, rfl⟩, h _ he (Heap.get?_push_of_some _ (Heap.get?_push_size _ B.free)) (by
                                                                                             rw [Heap.size_push, hz]) fun b o x => Heap.get?_push_of_some _ (Heap.get?_push_of_some _ x)⟩
end
def IteE (k : Bool) (K : PySem.W.Frag) (a : Addr) : It :=
  ⟨fun i H => ∃ (xs : List V) (x : V), SqK k K H a xs ∧ xs[i]? = some x, fun i H v H' => ∃ T x, v = .ref T ∧ H T = none ∧ H' = upd H T (.tup [.int (i : Nat), x]) ∧ ∀ xs, SqK k K H a xs → xs[i]? = some x, fun i H => ∃ xs : List V, SqK k K H a xs ∧ xs.length = i⟩
theorem turn_enumK {P : Program} {w : World} {K : PySem.W.Frag} {elts : List Expr} {kk : Nat} {tpos : Pos} (k : Bool) (a e it : Addr) :
    Turn P w K (.Tuple elts kk tpos) (IteE k K a) [e, it] e (fun i h => (∃ old, IsEnum h e it ((i : Nat) : Int) old) ∧ ItK k h it a i ∧ e ≠ it) where
  mem := by simp
  obj := fun i h st b hb => by
    obtain ⟨⟨old, he⟩, hi, _⟩ := st
    have e' : b = e ∨ b =
                          it := by simpa using hb
    rcases e' with z | z
    · rw [z]
      exact ⟨_, he, fun v q => nomatch q⟩
    · rw [z]; obtain ⟨o, ho, hd, _⟩ := hi.obj; exact ⟨o, ho, hd⟩
  keep := fun i h h' st kq => let ⟨⟨old, he⟩, hi, hne⟩ := st; ⟨⟨old, kq e (by simp) _ he⟩, hi.at fun o q => kq it (by simp) o q, hne⟩
  item := by
    intro X hP hw hK hc i
                          pins s σ H E I hf st hg
    subst hP hw hK
    obtain ⟨⟨old, he⟩,
                       hit, hne⟩ := st
    obtain ⟨xs, x, hq, hx⟩ := hg
    obtain ⟨its, rv, p, hz⟩ := hq.see I
    obtain ⟨u, hu,
                   ru⟩ := rv.get hx
    have hel : e < s.heap.objs.size
                                    := Heap.lt_size he
    have hil : it < s.heap.objs.size := by obtain ⟨_, q, _⟩ := hit.obj; exact Heap.lt_size q
    have hai : a ≠ it := p.ne hit
    have hae : e ∉ [it, a] := fun z => by
      have z' : e = it ∨ e = a := by simpa using z
      rcases z' with z' | z'
      · exact hne z'
      · obtain ⟨o, n, q, d⟩ := p.obj
        rw [← z', show s.heap.get? e = _ from he] at q
        cases q
        cases d
    have hlt : i < its.toArray.size := by
      rw [List.size_toArray, ← rv.length]
      exact (List.getElem?_eq_some_iff.mp hx).1
    refine wpAny_pyNext_enum_itemD (drawsK (A := X.A.in1) k (I.ok.hd hc) it a hai its.toArray) he ⟨hit, p⟩ hlt hne hae fun x' h' tk hPx ho hit' hT hsz hk => ?_
    have ex' : x' = u := by
      have : its.toArray[i]? = some u := by simpa using hu
      rw [hPx] at this
      exact Option.some.inj this
    subst ex'
    refine ⟨_, rfl, wpAny_letOwnedTupleGo_enum (s := { s with heap := h', toks := tk + 1 }) ho fun h'' he' sb => ?_⟩
    have hT2 : h''.get? s.heap.objs.size = some { cls := .type "tuple", data := .seq #[.int i tk, x'] } := (sb.2 _ (Nat.ne_of_gt hel)).trans hT
    have new : ObjOk X.prog X.w (upd H s.heap.objs.size (.tup [.int (i
                                                                       : Nat), x])) h'' s.heap.objs.size (.tup [.int (i : Nat), x]) :=
      ⟨by show 2 ≤ sizeLine; decide, [.int i tk, x'], .cons ⟨_, rfl⟩ (.cons ru .nil), ⟨_, hT2, rfl, _, rfl⟩⟩
    have I1 : Inv X pins σ (upd H s.heap.objs.size (.tup [.int (i : Nat), x])) { s with heap := h'', toks := tk + 1 } :=
      I.turnedNew (ch := [e, it]) (fun b ob hb q => (sb.2 b (fun z => hb (by simp [z]))).trans
                                                                                               (hk b ob (fun z => hb (by simp [z])) (fun z => hb (by simp [z])) q)) hf (Nat.le_refl _) new
    refine ⟨.ref s.heap.objs.size, _, I1, rfl, ⟨_, x, rfl, I.hok.fresh (Nat.le_refl _), rfl, fun ys hy => by rw [SqK.inj I hy hq]; exact hx⟩, ⟨⟨x', ?_⟩, hit'.1.at fun o q => (sb.2 it (Ne.symm hne)).trans q, hne⟩, fun b hb => ?_⟩
    · have e1 : ((i + 1 : Nat) :
                                 Int) = (i : Int) + 1 := by omega
      rw [e1]; exact he'
    · have hb' : b <
                     s.heap.objs.size := by
        have e' : b = e ∨ b =
                              it := by simpa using hb
        rcases e' with z | z
        · rw [z]; exact hel
        · rw [z]; exact hil
      rw [upd_ne
                 (Nat.ne_of_lt hb')]
      exact (hf b hb).1
  done := by
    intro X hP hw hK hc i
                          pins s σ H E I hf st hg
    subst hP hw hK
    obtain ⟨⟨old, he⟩,
                       hit, hne⟩ := st
    obtain ⟨xs, hq, hx⟩ := hg
    obtain ⟨its, rv, p, hz⟩ := hq.see I
    obtain ⟨f0, f1, f2, f3,
                            f4, f5⟩ := hf it (by simp)
    have hl := rv.length
    have hn : i = its.toArray.size := by rw [List.size_toArray]; omega
    rw [hn] at hit he
    exact wpAny_pyNext_enum_endD (drawsK (A := X.A.in1) k (I.ok.hd hc) it a (p.ne hit) its.toArray) he ⟨hit, p⟩ fun h' eb => ⟨rfl, I.turned (t' := s.toks) (fun b o hb q => eb b o hb q) f0 f1 f3 f4 f5⟩
  self := fun A i s Q E st h => let ⟨⟨_, he⟩, _⟩ := st
  wpAny_pyIter_enum he h
def iEnumK (K : PySem.W.Frag) (ta : TA) : TI := fun σ H R => ta σ H fun vs H1 => ∃ k a xs, vs = [.ref a] ∧ SqK k K H1 a xs ∧ R (IteE k K a) H1
theorem pi_enumK {X : Cx} {e : Expr} {ta : TA} {p pos tpos : Pos} {elts : List Expr} {kk : Nat} (hg : Gl X "enumerate") (hm : X.mg "enumerate" = none) (ha : PA X [e] ta) (hs : starEach [e] X.env = [(false, eval e X.env)] := by rfl) :
    PI X (.Tuple elts kk tpos) (.Call (.Name "enumerate" p) [e] [] pos) (iEnumK X.K ta) := by
  refine ⟨fun pins
                   s σ H R I h => ?_⟩
  refine Call_ (ld_blt I hg hm boot_enumerate (PyProof.Rows.callWith_type1 (thn
                                                                                (ha.run pos pins s σ H _ I h) fun us s1 ⟨vs, H1, I1, r1, q1⟩ => ?_) hs rfl))
  obtain ⟨k, a, xs, ex, hq, q⟩ := q1
  subst ex
  cases r1 with
  | cons r rr =>
    cases rr
    cases r
    obtain ⟨its, rv, p', hz⟩ := hq.see I1
    refine enum1_begins (beginsK k a its.toArray) p' fun h' he hit hsz hk => wpAny_pyIter_enum he ?_
    have I2 : Inv X pins σ H1 { s1 with heap
                                             := h' } := I1.kept (t' := s1.toks) hk
    refine ⟨s1.heap.objs.size + 1, [s1.heap.objs.size + 1, s1.heap.objs.size], _, _, H1, rfl, I2, turn_enumK k a (s1.heap.objs.size + 1) s1.heap.objs.size, ⟨⟨.none, he⟩, itO_at hit, Nat.succ_ne_self _⟩, fun b hb => ?_, q⟩
    have e' : b = s1.heap.objs.size + 1 ∨ b
                                            = s1.heap.objs.size := by simpa using hb
    have hle :
               s1.heap.objs.size ≤ b := by
      rcases e' with z | z
      · rw [z]
        exact Nat.le_add_right _ _
      · rw [z]; exact Nat.le_refl _
    exact I1.fpOk hle
                      (I1.hok.fresh hle)
end Vm

set_option Elab.async false
set_option linter.all false
set_option maxRecDepth 100000
set_option maxHeartbeats 4100000
namespace Vm
open L2 PyProof.Rows PySem PySem.Spec

/-! ### zip(s, t) -/
def IteZ (k k' : Bool) (K : PySem.W.Frag) (a b : Addr) : It :=
  ⟨fun i H => ∃ (xs ys : List V) (x y : V), SqK k K H a xs ∧ SqK k' K H b ys ∧ xs[i]? = some x ∧ ys[i]? = some y,
    fun i H v H' => ∃ T x y, v = .ref T ∧ H T = none ∧ H' = upd H T (.tup [x, y]) ∧ (∀ xs, SqK k K H a xs → xs[i]? = some x) ∧ ∀ ys, SqK k' K H b ys → ys[i]? = some y,
    fun i H => ∃ xs ys : List V, SqK k K H a xs ∧ SqK k' K H b ys ∧ i ≤ xs.length ∧ i ≤ ys.length ∧ (i = xs.length ∨ i = ys.length)⟩
theorem turn_zipK {P : Program} {w : World} {K : PySem.W.Frag} {elts : List Expr} {kk : Nat} {tpos : Pos} (k k' : Bool) {a b z TI TO i1 i2 : Addr} (D : ZipSep2 z TI TO i1 i2 [i1, a] [i2, b]) :
    Turn P w K (.Tuple elts kk tpos) (IteZ k k' K a b) [z, TI, TO, i1, i2] z (fun i h => IsZip h z TI TO .none ∧ IsTupOf2 h TI (.ref i1) (.ref i2) ∧ (∃ x y, IsTupOf2 h TO x y) ∧ ItK k h i1 a i ∧ ItK k' h i2 b i) where
  mem := by simp
  obj := fun i h st c hc => by
    obtain ⟨hz, hTI, ⟨x,
                         y, hTO⟩, h1, h2⟩ := st
    have e' : c = z ∨ c = TI ∨ c = TO ∨
                                        c = i1 ∨ c = i2 := by simpa using hc
    rcases e' with q
                     | q | q | q | q
    · rw [q]
      exact ⟨_, hz, fun v q => nomatch q⟩
    · rw [q]
      exact ⟨_, hTI, fun v q => nomatch q⟩
    · rw [q]
      exact ⟨_, hTO, fun v q => nomatch q⟩
    · rw [q]; obtain ⟨o, ho, hd, _⟩ := h1.obj; exact ⟨o, ho, hd⟩
    · rw [q]; obtain ⟨o, ho, hd, _⟩ := h2.obj; exact ⟨o, ho, hd⟩
  keep := fun i h h' st kq => by
    obtain ⟨hz, hTI, ⟨x,
                         y, hTO⟩, h1, h2⟩ := st
    exact ⟨kq z (by simp) _ hz, kq TI (by simp) _ hTI, ⟨x, y, kq TO (by simp) _ hTO⟩, h1.at fun o q => kq i1 (by simp) o q, h2.at fun o q => kq i2 (by simp) o q⟩
  item := by
    intro X hP hw hK hc i
                          pins s σ H E I hf st hg
    subst hP hw hK
    obtain ⟨hz, hTI, ⟨x0,
                          y0, hTO⟩, h1, h2⟩ := st
    obtain ⟨xs, ys, x, y,
                          hqx, hqy, hx, hy⟩ := hg
    obtain ⟨its, rv, p, _⟩ := hqx.see I
    obtain ⟨its2, rv2, p2, _⟩ := hqy.see I
    obtain ⟨u, hu,
                   ru⟩ := rv.get hx
    obtain ⟨u2, hu2,
                     ru2⟩ := rv2.get hy
    have hzl : z < s.heap.objs.size
                                    := Heap.lt_size hz
    have lt1 : i < its.toArray.size := by
      rw [List.size_toArray, ← rv.length]
      exact (List.getElem?_eq_some_iff.mp hx).1
    have lt2 : i < its2.toArray.size := by
      rw [List.size_toArray, ← rv2.length]
      exact (List.getElem?_eq_some_iff.mp hy).1
    refine wpAny_pyNext_zipD2_item D (drawsK (A := X.A.in1) k (I.ok.hd hc) i1 a (p.ne h1) its.toArray) (drawsK (A := X.A.in1) k' (I.ok.hd hc) i2 b (p2.ne h2) its2.toArray) hz hTI hTO ⟨h1, p⟩ ⟨h2, p2⟩ lt1 lt2 fun v1 v2 h' tk P1 P2 z' TO' st1 st2 hT hsz hk => ?_
    have e1 : v1 = u := by
      have : its.toArray[i]? = some u := by simpa using hu
      rw [P1] at this
      exact Option.some.inj this
    have e2 : v2 = u2 := by
      have : its2.toArray[i]? = some u2 := by simpa using hu2
      rw [P2] at this
      exact Option.some.inj this
    subst e1 e2
    refine ⟨_, rfl, wpAny_letOwnedTupleGo_zip (s := { s with heap := h', toks := tk }) z' fun h'' z'' sb => ?_⟩
    have hT2 : h''.get? s.heap.objs.size = some { cls := .type "tuple", data := .seq #[v1, v2] } := (sb.2 _ (Nat.ne_of_gt hzl)).trans hT
    have new : ObjOk X.prog X.w (upd H s.heap.objs.size
                                                        (.tup [x, y])) h'' s.heap.objs.size (.tup [x, y]) :=
      ⟨by show 2 ≤ sizeLine; decide, [v1, v2], .cons ru (.cons ru2 .nil), ⟨_, hT2, rfl, _, rfl⟩⟩
    have I1 : Inv X pins σ (upd H s.heap.objs.size (.tup [x, y])) { s with heap := h'', toks := tk } :=
      I.turnedNew (ch := [z, TI, TO, i1, i2]) (fun c o hb q => (sb.2 c (fun q' => hb (by simp [q']))).trans (hk c o (fun q' => hb (by simp [q'])) (fun q' => hb (by simp [q'])) (fun q' => hb (by simp [q'])) (fun q' => hb (by simp [q'])) q)) hf (Nat.le_refl _) new
    refine ⟨.ref s.heap.objs.size, _, I1, rfl, ⟨_, x, y, rfl, I.hok.fresh (Nat.le_refl _), rfl, fun l hl => by rw [SqK.inj I hl hqx]; exact hx, fun l hl => by rw [SqK.inj I hl hqy]; exact hy⟩, ⟨z'', ?_, ⟨v1, v2, ?_⟩, ?_, ?_⟩, fun c hcm => ?_⟩
    · exact (sb.2 _ D.TIz).trans (hk _
                                       _ D.TIz D.TITO D.TIi1 D.TIi2 hTI)
    · exact (sb.2 _
                    D.TOz).trans TO'
    · exact st1.1.at fun o q => (sb.2 _ (Ne.symm D.zi1)).trans q
    · exact st2.1.at fun o q => (sb.2 _ (Ne.symm D.zi2)).trans q
    · have hlt : c <
                     s.heap.objs.size := by
        have e' : c = z ∨ c = TI ∨ c = TO ∨
                                            c = i1 ∨ c = i2 := by simpa using hcm
        rcases e' with q
                         | q | q | q | q
        · rw [q]; exact hzl
        · rw [q]
          exact Heap.lt_size hTI
        · rw [q]
          exact Heap.lt_size hTO
        · rw [q]; obtain ⟨_, e1, _⟩ := h1.obj; exact Heap.lt_size e1
        · rw [q]; obtain ⟨_, e2, _⟩ := h2.obj; exact Heap.lt_size e2
      rw [upd_ne
                 (Nat.ne_of_lt hlt)]
      exact (hf c hcm).1
  done := by
    intro X hP hw hK hc i
                          pins s σ H E I hf st hg
    subst hP hw hK
    obtain ⟨hz, hTI, ⟨x0,
                          y0, hTO⟩, h1, h2⟩ := st
    obtain ⟨xs, ys, hqx, hqy, l1, l2, hend⟩ := hg
    obtain ⟨its, rv, p, _⟩ := hqx.see I
    obtain ⟨its2, rv2, p2, _⟩ := hqy.see I
    have n1 : its.toArray.size = xs.length := by rw [List.size_toArray, rv.length]
    have n2 : its2.toArray.size = ys.length := by rw [List.size_toArray, rv2.length]
    refine wpAny_pyNext_zipD2_end D (drawsK (A := X.A.in1) k (I.ok.hd hc) i1 a (p.ne h1) its.toArray) (drawsK (A := X.A.in1) k' (I.ok.hd hc) i2 b (p2.ne h2) its2.toArray) hz hTI hTO ⟨h1, p⟩ ⟨h2, p2⟩ (by omega) (by omega) (by omega) fun h' tk hk => ⟨rfl, I.turnedL (ch := [z, TI, TO, i1, i2]) (fun c o hb q =>
      hk c o (fun q' => hb (by simp [q'])) (fun q' => hb (by simp [q']))
                                                                         (fun q' => hb (by simp [q'])) (fun q' => hb (by simp [q'])) q) hf⟩
  self := fun A i s Q E st h
                             => wpAny_pyIter_zip st.1 h
def iZipK (K : PySem.W.Frag) (ta : TA) : TI := fun σ H R => ta σ H fun vs H1 => ∃ k k' a b xs ys, vs = [.ref a, .ref b] ∧ SqK k K H1 a xs ∧ SqK k' K H1 b ys ∧ R (IteZ k k' K a b) H1
theorem pi_zipK {X : Cx} {e e2 : Expr} {ta : TA} {p pos tpos : Pos} {elts : List Expr} {kk : Nat} (hg : Gl X "zip") (hm : X.mg "zip" = none) (ha : PA X [e, e2] ta)
    (hs : starEach [e, e2] X.env = (false, eval e X.env) :: starEach [e2] X.env := by
                                                                                      rfl) (hpl : (backTo pos (starEach [e2] X.env)).any (·.1) = false := by rfl) :
    PI X (.Tuple elts kk tpos) (.Call (.Name "zip" p) [e, e2] [] pos) (iZipK X.K ta) := by
  refine ⟨fun pins
                   s σ H R I h => ?_⟩
  refine Call_ (ld_blt I hg hm PyProof.Rows.boot_zip (PyProof.Rows.callWith_type1
                                                                                  (thn (ha.run pos pins s σ H _ I h) fun us s1 ⟨vs, H1, I1, r1, q1⟩ => ?_) hs hpl))
  obtain ⟨k, k', a, b, xs, ys, ex, hqx, hqy, q⟩ := q1
  subst ex
  cases r1 with
  | cons r rr =>
    cases rr with
    | cons r' rr =>
      cases rr
      cases r
      cases r'
      have fresh5 : ∀ c, c ∈ [s1.heap.objs.size + 4, s1.heap.objs.size + 2, s1.heap.objs.size
                                                                                              + 3, s1.heap.objs.size, s1.heap.objs.size + 1] → FpOk X pins H1 c := fun c hcm => by
        have e' : c = s1.heap.objs.size + 4 ∨ c = s1.heap.objs.size + 2 ∨ c = s1.heap.objs.size
                                                                                                + 3 ∨ c = s1.heap.objs.size ∨ c = s1.heap.objs.size + 1 := by simpa using hcm
        have hle :
                   s1.heap.objs.size ≤ c := by
          rcases e' with z
                           | z | z | z | z
          · rw [z]
            exact Nat.le_add_right _ _
          · rw [z]
            exact Nat.le_add_right _ _
          · rw [z]
            exact Nat.le_add_right _ _
          · rw [z]; exact Nat.le_refl _
          · rw [z]
            exact Nat.le_add_right _ _
        exact I1.fpOk hle
                          (I1.hok.fresh hle)
      obtain ⟨its, rv, p1, _⟩ := hqx.see I1
      obtain ⟨its2, rv2, p2, _⟩ := hqy.see I1
      refine zip_begins2 (beginsK k a its.toArray) (beginsK k' b its2.toArray) p1 p2 fun h' hz hTI hTO h1 h2 hsz hk => wpAny_pyIter_zip hz ?_
      have I2 : Inv X pins σ H1 { s1 with heap
                                               := h' } := I1.kept (t' := s1.toks) hk
      exact ⟨s1.heap.objs.size + 4, [s1.heap.objs.size + 4, s1.heap.objs.size + 2, s1.heap.objs.size + 3, s1.heap.objs.size, s1.heap.objs.size + 1], _, _, H1, rfl, I2,
        turn_zipK k k' (zip_sep2 (fun c hc => by rw [List.mem_singleton.mp hc]; exact hqx.lt I1) (fun c hc => by rw [List.mem_singleton.mp hc]; exact hqy.lt I1)), ⟨hz, hTI, ⟨_, _, hTO⟩, itO_at h1, itO_at h2⟩, fresh5, q⟩
end Vm

set_option Elab.async false
set_option linter.all false
set_option maxRecDepth 100000
set_option maxHeartbeats 4100000
namespace Vm
open L2 PyProof.Rows PySem PySem.Spec

/-! ### an address held apart -/
structure Away (ρ : Wd) (h : Mh) (H : Hp) (D : Addr) : Prop where
  fz : ρ.fz D = none
  lk : ρ.lk D = none
  as : D ∉ ρ.as
def Wd.hold (r : Wd) (D : Addr) (o : HO) : Wd := ⟨r.as, r.fz, upd r.lk D o⟩
section
variable {g : Gc} {ρ ρ' : Wd} {h h' : Mh} {H H' : Hp} {D : Addr} {o : HO}
theorem Cs.out (c : Cs g ρ h H) (hD : H D = none) : Away ρ h H D := ⟨c.fzH.free hD, c.lkH.free hD, fun z => by
  obtain ⟨w, e⟩ := c.trk z
  rw [hD] at e
  cases e⟩
theorem Cs.hold (c : Cs g ρ h H) (a : Away ρ h H D) (e : H D = some o) : Cs g (ρ.hold D o) h H :=
  ⟨c.len, fun n o' b e1 e2 => by
    have m := c.at_ n o' b e1 e2
    have lx : Wd.Lx ρ (ρ.hold D o) := ⟨List.prefix_refl _, fun _ _ q => q⟩
    cases o' with
    | lst xs => obtain ⟨vs, r, q⟩ := m; exact ⟨vs, Rls.mx lx r, q⟩
    | tup xs => obtain ⟨vs, o, r, d, q⟩ := m; exact ⟨vs, o, Rls.mx lx r, d, q⟩
    | tpl xs => obtain ⟨vs, r, q⟩ := m; exact ⟨vs, Rls.mx lx r, q⟩
    | ins c fs => obtain ⟨dx, gs, r, q⟩ := m; exact ⟨dx, gs, Rf.mx lx r, q⟩
    | exc c fs =>
      rcases m with ⟨e0, q⟩ | ⟨dx, gs, r, q, q2⟩
      · exact .inl ⟨e0, q⟩
      · exact .inr ⟨dx, gs, Rf.mx lx r, q, q2⟩
    | ded => exact m, c.inj, c.scr, fun a dd fs ex => by
    obtain ⟨gs, r, q⟩ := c.xn a dd fs ex
    exact ⟨gs, Rf.mx ⟨List.prefix_refl _, fun _ _ q => q⟩ r, q⟩, c.fzH, fun b u q => by
    by_cases z : b = D
    · subst z
      have q : upd ρ.lk b o b = some u := q
      rw [upd_same] at q
      cases q
      exact e
    · have q : upd ρ.lk D o b = some u := q
      rw [upd_ne z] at q
      exact c.lkH b u q, fun n o' b e1 e2 => by
    obtain ⟨q1, q2⟩ := c.apt n o' b e1 e2
    refine ⟨?_, q2⟩
    have hb : b ≠ D := by
      intro z
      subst z
      exact a.as (List.mem_of_getElem? e2)
    show upd ρ.lk D o b = none
    rw [upd_ne hb]
    exact q1, c.nfl⟩
/-- behind what was done while it was held -/
theorem Wd.Le.freed (e : Wd.Le (ρ.hold D o) ρ') (a : Away ρ h H D) : Wd.Le ρ ⟨ρ'.as, ρ'.fz, ρ.lk⟩ :=
  ⟨e.as, e.fz, rfl, fun b h1 h2 => e.nw b h1 (by
    show upd ρ.lk D o b ≠ none
    rw [upd_ne (fun z => by rw [z, a.lk] at h2; exact h2 rfl)]
    exact h2)⟩
theorem Wd.Le.same (e : Wd.Le (ρ.hold D o) ρ') (c : Cs g ρ' h' H') : H' D = some o := c.lkH D o (by rw [e.lk]; exact upd_same)
theorem Wd.Le.away (e : Wd.Le (ρ.hold D o) ρ') (a : Away ρ h H D) (c : Cs g ρ' h' H') : Away ⟨ρ'.as, ρ'.fz, ρ.lk⟩ h' H' D :=
  ⟨e.nw D a.fz (by rw [show (ρ.hold D o).lk D = some o from upd_same]; exact fun z => nomatch z), a.lk, fun z => by
    obtain ⟨n, hn, q⟩ := List.getElem_of_mem z
    have hl : n < h'.length := by rw [← c.len]; exact hn
    have q2 : ρ'.as[n]? = some D := by rw [← q]; exact List.getElem?_eq_getElem hn
    have k := (c.apt n _ D (List.getElem?_eq_getElem hl) q2).1
    rw [e.lk] at k
    rw [show (ρ.hold D o).lk D = some o from upd_same] at k
    cases k⟩
theorem Cs.freed (c : Cs g ρ' h' H') (e : Wd.Le (ρ.hold D o) ρ') (a : Away ρ h H D) (c0 : Cs g ρ h H) (nf : (∀ o w, H' D ≠ some (.frz o w)) ∧ (∀ φ : Heap → Prop, H' D ≠ some (HO.ext φ)) ∧ ∀ gs, H' D ≠ some (.xd gs)) (u : HO) : Cs g ⟨ρ'.as, ρ'.fz, ρ.lk⟩ h' (upd H' D u) := by
  have aw := e.away a c
  have lx : Wd.Lx ρ' ⟨ρ'.as, ρ'.fz, ρ.lk⟩ := ⟨List.prefix_refl _, fun _ _ q => q⟩
  refine ⟨c.len, fun n o' b e1 e2 => Om.rx lx (c.at_ n o' b e1 e2) (fun z => aw.as (z ▸ List.mem_of_getElem? e2)) nf.2.1, c.inj, c.scr.upd nf.1, fun a' dd fs ex => ?_, c.fzH.upd aw.fz, fun b q hq => ?_, fun n o' b e1 e2 => ?_, c.nfl⟩
  · obtain ⟨gs, r, q⟩ := c.xn a' dd fs ex
    refine ⟨gs, Rf.mx lx r, ?_⟩
    rw [upd_ne]
    · exact q
    · intro z
      rw [z] at q
      exact nf.2.2 _ q
  · have hq : ρ.lk b = some q := hq
    have hb : b ≠ D := fun z => by rw [z, a.lk] at hq; cases hq
    rw [upd_ne hb]
    refine c.lkH b q ?_
    rw [e.lk]
    show upd ρ.lk D o b = some q
    rw [upd_ne hb]
    exact hq
  · obtain ⟨q1, q2⟩ := c.apt n o' b e1 e2
    refine ⟨?_, q2⟩
    show ρ.lk b = none
    have hb : b ≠ D := by
      intro z
      subst z
      exact aw.as (List.mem_of_getElem? e2)
    rw [e.lk] at q1
    have q1 : upd ρ.lk D o b = none := q1
    rw [upd_ne hb] at q1
    exact q1
theorem Cs.frzOld (c : Cs g ρ h H) (a : Away ρ h H D) (e : H D = some o) (hu : ∀ o' xs, o ≠ .frz o' (.lst xs)) : Cs g (ρ.frz D o) h H ∧ Wd.Le ρ (ρ.frz D o) := by
  have le : Wd.Le ρ (ρ.frz D o) := ⟨List.prefix_refl _, fun b u q => (by show upd ρ.fz D o b = some u; rw [upd_ne (fun z => by rw [z, a.fz] at q; cases q)]; exact q), rfl, fun b h1 h2 => (by
    show upd ρ.fz D o b = none
    rw [upd_ne (fun z => by rw [z, a.lk] at h2; exact h2 rfl)]
    exact h1)⟩
  refine ⟨⟨c.len, fun n o' b e1 e2 => ?_, c.inj, c.scr, fun a' dd fs ex => ?_, fun b u q => ?_, c.lkH, fun n o' b e1 e2 => ?_, fun b o' xs q => ?_⟩, le⟩
  · have m := c.at_ n o' b e1 e2
    cases o' with
    | lst xs => obtain ⟨vs, r, q⟩ := m; exact ⟨vs, Rls.mono le r, q⟩
    | tup xs => obtain ⟨vs, o, r, d, q⟩ := m; exact ⟨vs, o, Rls.mono le r, d, q⟩
    | tpl xs => obtain ⟨vs, r, q⟩ := m; exact ⟨vs, Rls.mono le r, q⟩
    | ins c fs => obtain ⟨dx, gs, r, q⟩ := m; exact ⟨dx, gs, Rf.mono le r, q⟩
    | exc c fs =>
      rcases m with ⟨e0, q⟩ | ⟨dx, gs, r, q, q2⟩
      · exact .inl ⟨e0, q⟩
      · exact .inr ⟨dx, gs, Rf.mono le r, q, q2⟩
    | ded => exact m
  · obtain ⟨gs, r, q⟩ := c.xn a' dd fs ex
    exact ⟨gs, Rf.mono le r, q⟩
  · have q : upd ρ.fz D o b = some u := q
    by_cases z : b = D
    · subst z
      rw [upd_same] at q
      cases q
      exact e
    · rw [upd_ne z] at q
      exact c.fzH b u q
  · obtain ⟨q1, q2⟩ := c.apt n o' b e1 e2
    have hb : b ≠ D := by
      intro z
      subst z
      exact a.as (List.mem_of_getElem? e2)
    refine ⟨q1, fun hd => ?_⟩
    show upd ρ.fz D o b = none
    rw [upd_ne hb]
    exact q2 hd
  · have q : upd ρ.fz D o b = some (.frz o' (.lst xs)) := q
    by_cases z : b = D
    · subst z
      rw [upd_same] at q
      exact hu _ _ (Option.some.inj q)
    · rw [upd_ne z] at q
      exact c.nfl b o' xs q
end

/-! ### walks of fixed things -/
def itF (us : List U) : Itm := fun i h => if i ≤ us.length then .ok us[i]? h else .stuck
abbrev Mw := Sl → Mh → R (List U)
def toMi (m : Mw) : Mi := fun s h => (m s h).bind fun us h1 => .ok (itF us) h1
def datSeq : U → Option (Bool × List PyData)
  | .dat (.list ds) => some (true, ds)
  | .dat (.tuple ds) => some (false, ds)
  | _ => none
/-- a walk's things by the values of its arguments -/
def wOf (f : List U → Option (List U)) (L : Ml) : Mw := fun s h => (L s h).bind fun us h1 => match f us with
  | some l => .ok l h1
  | none => .stuck
def w1Of (f : U → Option (List U)) (A : Me) : Mw := fun s h => (A s h).bind fun u h1 => match f u with
  | some l => .ok l h1
  | none => .stuck
def upI (lo : Int) : Nat → List U
  | 0 => []
  | n + 1 => .int lo :: upI (lo + 1) n
def enumD : Nat → List PyData → List U
  | _, [] => []
  | i, d :: ds => .pr [.int (i : Nat), d] :: enumD (i + 1) ds
def zipD : List PyData → List PyData → List U
  | d :: ds, e :: es => .pr [d, e] :: zipD ds es
  | _, _ => []
def vSeq : U → Option (List U) := fun u => match datSeq u with
  | some (_, ds) => some (ds.map ofPd)
  | none => none
def vR1 : List U → Option (List U)
  | [.int j] => if decide (-(2 ^ 62) ≤ j ∧ j < 2 ^ 62) then some (upI 0 j.toNat) else none
  | _ => none
def vR2 : List U → Option (List U)
  | [.int i, .int j] => if decide (-(2 ^ 62) ≤ i ∧ i < 2 ^ 62 ∧ -(2 ^ 62) ≤ j ∧ j < 2 ^ 62) then some (upI i (j - i).toNat) else none
  | _ => none
def vEnum : List U → Option (List U)
  | [u] => match datSeq u with
    | some (_, ds) => some (enumD 0 ds)
    | none => none
  | _ => none
def vZip : List U → Option (List U)
  | [u, v] => match datSeq u, datSeq v with
    | some (_, ds), some (_, es) => some (zipD ds es)
    | _, _ => none
  | _ => none
def vStr : U → Option (List U)
  | .str z => some (z.cps.toList.map fun c => .str ⟨#[c]⟩)
  | _ => none
abbrev wSeq := w1Of vSeq
abbrev wStr := w1Of vStr
abbrev wR1 := wOf vR1
abbrev wR2 := wOf vR2
abbrev wEnum := wOf vEnum
abbrev wZip := wOf vZip
section
variable {g : Gc} {ρ ρ' : Wd} {h h' : Mh} {H H' : Hp}
theorem dat_ok {u : U} {v : V} {k : Bool} {ds : List PyData} (r : Rl g ρ u v) (e : datSeq u = some (k, ds)) : ∃ a vs, v = .ref a ∧ SqK k g.K ρ.fz a vs ∧ DqAll g.K ρ.fz vs ds := by
  unfold datSeq at e
  split at e
  · cases e
    cases r.2 with
    | lst hs ha => exact ⟨_, _, rfl, SqL.of hs, ha⟩
  · cases e
    cases r.2 with
    | tup hs ha => exact ⟨_, _, rfl, hs.sq, ha⟩
  · cases e
theorem SqK.hle {k : Bool} {K : PySem.W.Frag} {a : Addr} {xs : List V} (h : SqK k K H a xs) (e : Hle H H') : SqK k K H' a xs := by
  cases k with
  | true => exact SqL.hle h e
  | false => exact SqT.hle h e
theorem itF_get {us : List U} {vs : List V} {i : Nat} {x : U} (r : Rls g ρ us vs) (e : us[i]? = some x) : ∃ v, vs[i]? = some v ∧ Rl g ρ x v := Paired.get r e
/-- a fixed list, a fixed tuple -/
theorem itF_seq {k : Bool} {K : PySem.W.Frag} {a : Addr} {us : List U} {vs : List V} (hq : SqK k g.K ρ.fz a vs) (rv : Rls g ρ us vs) (hK : K = g.K) : ItOk g ρ (itF us) (IteS k K a) := fun ρ2 i h H e2 c2 => by
  subst hK
  unfold itF
  by_cases hi : i ≤ us.length
  · rw [if_pos hi]
    have hq2 : SqK k g.K H a vs := (hq.hle e2.fz).hle c2.fzH
    cases ex : us[i]? with
    | none =>
      have hl : vs.length ≤ i := by
        rw [← Paired.length rv]
        exact List.getElem?_eq_none_iff.mp ex
      cases k with
      | true => exact ⟨rfl, vs, hq2, hl⟩
      | false => exact ⟨rfl, vs, hq2, hl⟩
    | some x =>
      obtain ⟨v, ev, r⟩ := Paired.get rv ex
      cases k with
      | true =>
        refine ⟨⟨vs, v, hq2, ev⟩, fun v' H' y => ?_⟩
        obtain ⟨rfl, y⟩ := y
        have ev' := y vs hq2
        rw [ev] at ev'
        cases ev'
        exact ⟨ρ2, Wd.refl _, c2, Rl.mx e2 r⟩
      | false =>
        refine ⟨⟨vs, v, hq2, ev⟩, fun v' H' y => ?_⟩
        obtain ⟨rfl, y⟩ := y
        have ev' := y vs hq2
        rw [ev] at ev'
        cases ev'
        exact ⟨ρ2, Wd.refl _, c2, Rl.mx e2 r⟩
  · rw [if_neg hi]
    trivial
theorem upI_get {lo : Int} : ∀ {n i : Nat} {x : U}, (upI lo n)[i]? = some x → i < n ∧ x = .int (lo + (i : Nat)) := fun {n} => by
  induction n generalizing lo with
  | zero => intro i x e; unfold upI at e; simp at e
  | succ n ih =>
    intro i x e
    unfold upI at e
    cases i with
    | zero =>
      rw [List.getElem?_cons_zero] at e
      cases e
      exact ⟨Nat.succ_pos _, by simp⟩
    | succ i =>
      rw [List.getElem?_cons_succ] at e
      obtain ⟨h1, h2⟩ := ih e
      exact ⟨Nat.succ_lt_succ h1, by rw [h2]; congr 1; omega⟩
theorem upI_len {lo : Int} : ∀ {n : Nat}, (upI lo n).length = n := fun {n} => by
  induction n generalizing lo with
  | zero => rfl
  | succ n ih => unfold upI; rw [List.length_cons, ih]
theorem itF_range {lo : Int} {n : Nat} : ItOk g ρ (itF (upI lo n)) (Itr lo n) := fun ρ2 i h H e2 c2 => by
  unfold itF
  by_cases hi : i ≤ (upI lo n).length
  · rw [if_pos hi]
    cases ex : (upI lo n)[i]? with
    | none =>
      have hl := List.getElem?_eq_none_iff.mp ex
      rw [upI_len] at hl
      exact ⟨rfl, hl⟩
    | some x =>
      obtain ⟨h1, rfl⟩ := upI_get ex
      refine ⟨h1, fun v H' y => ?_⟩
      obtain ⟨rfl, rfl⟩ := y
      exact ⟨ρ2, Wd.refl _, c2, rfl⟩
  · rw [if_neg hi]
    trivial
theorem DqAll.get : ∀ {K : PySem.W.Frag} {vs : List V} {ds : List PyData} {i : Nat} {d : PyData}, DqAll K H vs ds → ds[i]? = some d → ∃ v, vs[i]? = some v ∧ Dq K H v d
  | _, _, _, _, _, .nil, e => by simp at e
  | _, _, _, 0, _, .cons r _, e => by simp at e; subst e; exact ⟨_, rfl, r⟩
  | _, _, _, i + 1, d, .cons _ t, e => by
    obtain ⟨v, h1, h2⟩ := DqAll.get (i := i) t (by simpa using e)
    exact ⟨v, by simpa using h1, h2⟩
theorem enumD_len : ∀ {ds : List PyData} {j : Nat}, (enumD j ds).length = ds.length
  | [], _ => rfl
  | d :: ds, j => by unfold enumD; rw [List.length_cons, List.length_cons, enumD_len]
theorem enumD_get : ∀ {ds : List PyData} {j i : Nat} {x : U}, (enumD j ds)[i]? = some x → ∃ d, ds[i]? = some d ∧ x = .pr [.int ((j + i : Nat) : Int), d]
  | [], _, i, _, e => by unfold enumD at e; simp at e
  | d :: ds, j, 0, x, e => by
    unfold enumD at e
    rw [List.getElem?_cons_zero] at e
    cases e
    exact ⟨d, rfl, rfl⟩
  | d :: ds, j, i + 1, x, e => by
    unfold enumD at e
    rw [List.getElem?_cons_succ] at e
    obtain ⟨d', h1, h2⟩ := enumD_get e
    exact ⟨d', by rw [List.getElem?_cons_succ]; exact h1, by rw [h2, show j + 1 + i = j + (i + 1) from by omega]⟩
theorem itF_enum {k : Bool} {a : Addr} {ds : List PyData} {vs : List V} (hq : SqK k g.K ρ.fz a vs) (ha : DqAll g.K ρ.fz vs ds) : ItOk g ρ (itF (enumD 0 ds)) (IteE k g.K a) := fun ρ2 i h H e2 c2 => by
  unfold itF
  have hq2 : SqK k g.K H a vs := (hq.hle e2.fz).hle c2.fzH
  by_cases hi : i ≤ (enumD 0 ds).length
  · rw [if_pos hi]
    cases ex : (enumD 0 ds)[i]? with
    | none =>
      have hl := List.getElem?_eq_none_iff.mp ex
      refine ⟨rfl, vs, hq2, ?_⟩
      rw [ha.len, ← enumD_len (j := 0)]
      omega
    | some x =>
      obtain ⟨d, ed, rfl⟩ := enumD_get ex
      obtain ⟨v, ev, r⟩ := ha.get ed
      refine ⟨⟨vs, v, hq2, ev⟩, fun v' H' y => ?_⟩
      obtain ⟨T, x, rfl, hT, rfl, y⟩ := y
      have ev' := y vs hq2
      rw [ev] at ev'
      cases ev'
      refine ⟨ρ2.frz T _, c2.frz_le hT, c2.newF hT (fun _ _ z => by cases z), ?_⟩
      have same : (ρ2.frz T (.tup [.int (i : Nat), v])).fz T = some (.tup [.int (i : Nat), v]) := upd_same
      refine ⟨T, _, rfl, same, .cons ?_ (.cons (Dq.hle (c2.frz_le hT).fz _ _ (Dq.hle e2.fz _ _ r)) .nil)⟩
      rw [Nat.zero_add]
      exact .int _
  · rw [if_neg hi]
    trivial
theorem zipD_get : ∀ {ds es : List PyData} {i : Nat} {x : U}, (zipD ds es)[i]? = some x → ∃ d e, ds[i]? = some d ∧ es[i]? = some e ∧ x = .pr [d, e]
  | [], es, i, _, q => by unfold zipD at q; simp at q
  | d :: ds, [], i, _, q => by unfold zipD at q; simp at q
  | d :: ds, e :: es, 0, x, q => by
    unfold zipD at q
    rw [List.getElem?_cons_zero] at q
    cases q
    exact ⟨d, e, rfl, rfl, rfl⟩
  | d :: ds, e :: es, i + 1, x, q => by
    unfold zipD at q
    rw [List.getElem?_cons_succ] at q
    obtain ⟨d', e', h1, h2, h3⟩ := zipD_get q
    exact ⟨d', e', by rw [List.getElem?_cons_succ]; exact h1, by rw [List.getElem?_cons_succ]; exact h2, h3⟩
theorem zipD_len : ∀ {ds es : List PyData}, (zipD ds es).length = min ds.length es.length
  | [], es => by unfold zipD; simp
  | d :: ds, [] => by unfold zipD; simp
  | d :: ds, e :: es => by unfold zipD; rw [List.length_cons, List.length_cons, List.length_cons, zipD_len]; omega
theorem itF_zip {k k' : Bool} {a b : Addr} {ds es : List PyData} {vs ws : List V} (hq : SqK k g.K ρ.fz a vs) (ha : DqAll g.K ρ.fz vs ds) (hq' : SqK k' g.K ρ.fz b ws) (hb : DqAll g.K ρ.fz ws es) : ItOk g ρ (itF (zipD ds es)) (IteZ k k' g.K a b) := fun ρ2 i h H e2 c2 => by
  unfold itF
  have hq2 : SqK k g.K H a vs := (hq.hle e2.fz).hle c2.fzH
  have hq3 : SqK k' g.K H b ws := (hq'.hle e2.fz).hle c2.fzH
  by_cases hi : i ≤ (zipD ds es).length
  · rw [if_pos hi]
    have hl1 := ha.len
    have hl2 := hb.len
    have hz := zipD_len (ds := ds) (es := es)
    cases ex : (zipD ds es)[i]? with
    | none =>
      have hl := List.getElem?_eq_none_iff.mp ex
      exact ⟨rfl, vs, ws, hq2, hq3, by omega, by omega, by omega⟩
    | some x =>
      obtain ⟨d, e, ed, ee, rfl⟩ := zipD_get ex
      obtain ⟨v, ev, r⟩ := ha.get ed
      obtain ⟨w, ew, r'⟩ := hb.get ee
      refine ⟨⟨vs, ws, v, w, hq2, hq3, ev, ew⟩, fun v' H' y => ?_⟩
      obtain ⟨T, x, y, rfl, hT, rfl, y1, y2⟩ := y
      have ev' := y1 vs hq2
      rw [ev] at ev'
      cases ev'
      have ew' := y2 ws hq3
      rw [ew] at ew'
      cases ew'
      refine ⟨ρ2.frz T _, c2.frz_le hT, c2.newF hT (fun _ _ z => by cases z), ?_⟩
      have same : (ρ2.frz T (.tup [v, w])).fz T = some (.tup [v, w]) := upd_same
      exact ⟨T, _, rfl, same, .cons (Dq.hle (c2.frz_le hT).fz _ _ (Dq.hle e2.fz _ _ r)) (.cons (Dq.hle (c2.frz_le hT).fz _ _ (Dq.hle e2.fz _ _ r')) .nil)⟩
  · rw [if_neg hi]
    trivial
end
end Vm

set_option Elab.async false
set_option linter.all false
set_option maxRecDepth 100000
set_option maxHeartbeats 4100000
namespace Vm
open L2 PyProof.Rows PySem PySem.Spec

section
variable {X : Cx} {g : Gc} {W : WX} {a b c e : Expr} {A B Cc : Me} {pos : Pos} {L : Ml}
theorem wOf_read {f : List U → Option (List U)} {σ : L2.St} {H : Hp} {R' : It → Hp → Prop} (q : TIt g W (toMi (wOf f L)) σ H R') : TL g W L σ H fun vs H1 => ∃ ρ1 us h1 l, Rls g ρ1 us vs ∧ Cs g ρ1 h1 H1 ∧ f us = some l ∧ ∀ J, ItOk g ρ1 (itF l) J → R' J H1 := by
  obtain ⟨ρ, s, h, hs, cs, p⟩ := q
  refine ⟨ρ, s, h, hs, cs, ?_⟩
  unfold toMi wOf at p
  cases eA : L s h with
  | ok us h1 =>
    rw [eA] at p
    simp only [R.bind] at p
    intro ρ1 vs H1 e1 c1 r1
    cases ef : f us with
    | none => rw [ef] at p; exact p.elim
    | some l => rw [ef] at p; exact ⟨ρ1, us, h1, l, r1, c1, ef, fun J k => p ρ1 J H1 e1 c1 k⟩
  | ex cc ff h1 => rw [eA] at p; exact p
  | stuck => rw [eA] at p; exact p.elim
theorem w1Of_read {f : U → Option (List U)} {σ : L2.St} {H : Hp} {R' : It → Hp → Prop} (q : TIt g W (toMi (w1Of f A)) σ H R') : T g W A σ H fun v H1 => ∃ ρ1 u h1 l, Rl g ρ1 u v ∧ Cs g ρ1 h1 H1 ∧ f u = some l ∧ ∀ J, ItOk g ρ1 (itF l) J → R' J H1 := by
  obtain ⟨ρ, s, h, hs, cs, p⟩ := q
  refine ⟨ρ, s, h, hs, cs, ?_⟩
  unfold toMi w1Of at p
  cases eA : A s h with
  | ok us h1 =>
    rw [eA] at p
    simp only [R.bind] at p
    intro ρ1 vs H1 e1 c1 r1
    cases ef : f us with
    | none => rw [ef] at p; exact p.elim
    | some l => rw [ef] at p; exact ⟨ρ1, us, h1, l, r1, c1, ef, fun J k => p ρ1 J H1 e1 c1 k⟩
  | ex cc ff h1 => rw [eA] at p; exact p
  | stuck => rw [eA] at p; exact p.elim
/-- a wish that follows -/
theorem TL.imp {σ : L2.St} {H : Hp} {Q Q' : List V → Hp → Prop} (q : TL g W L σ H Q) (i : ∀ vs H, Q vs H → Q' vs H) : TL g W L σ H Q' := by
  obtain ⟨ρ, s, h, hs, cs, p⟩ := q
  exact ⟨ρ, s, h, hs, cs, Post.imp p i⟩
theorem T.imp {σ : L2.St} {H : Hp} {Q Q' : V → Hp → Prop} (q : T g W A σ H Q) (i : ∀ vs H, Q vs H → Q' vs H) : T g W A σ H Q' := by
  obtain ⟨ρ, s, h, hs, cs, p⟩ := q
  exact ⟨ρ, s, h, hs, cs, Post.imp p i⟩
theorem wi_seq {tg : Expr} (hK : X.K = g.K := by assumption) (ha : PE X a (T g W A)) : PI X tg a (TIt g W (toMi (wSeq A))) := by
  refine PI.im (pi_seq ha) fun σ H R' q => T.imp (w1Of_read q) fun v H1 ⟨ρ1, u, h1, l, r, c1, ef, k⟩ => ?_
  rw [hK]
  unfold vSeq at ef
  cases ed : datSeq u with
  | none => rw [ed] at ef; cases ef
  | some kd =>
    obtain ⟨kk, ds⟩ := kd
    rw [ed] at ef
    cases ef
    obtain ⟨ad, vs, rfl, hq, ha⟩ := dat_ok r ed
    exact ⟨kk, ad, rfl, ⟨vs, hq.hle c1.fzH⟩, k _ (itF_seq hq (ofs_ok ha) rfl)⟩
theorem wi_range1 {tg : Expr} {p : Pos} (hg : Gl X "range") (hm : X.mg "range" = none) (ha : PA X [a] (TL g W L)) (hs : starEach [a] X.env = [(false, eval a X.env)] := by rfl) : PI X tg (.Call (.Name "range" p) [a] [] pos) (TIt g W (toMi (wR1 L))) := by
  refine PI.im (pi_range1 hg hm ha hs) fun σ H R' q => TL.imp (wOf_read q) fun vs H1 ⟨ρ1, us, h1, l, r, c1, ef, k⟩ => ?_
  unfold vR1 at ef
  split at ef
  · rename_i j
    obtain ⟨v, rfl, rr⟩ := one_of r
    cases ed : decide (-(2 ^ 62) ≤ j ∧ j < 2 ^ 62) with
    | false => rw [ed, if_neg Bool.false_ne_true] at ef; cases ef
    | true =>
      rw [ed, if_pos rfl] at ef
      cases ef
      obtain ⟨h1, h2⟩ := of_decide_eq_true ed
      exact ⟨j, by rw [rr], h1, h2, k _ itF_range⟩
  · cases ef
theorem wi_range2 {tg : Expr} {p : Pos} (hg : Gl X "range") (hm : X.mg "range" = none) (ha : PA X [a, b] (TL g W L)) (hs : starEach [a, b] X.env = [(false, eval a X.env), (false, eval b X.env)] := by rfl) (hs2 : starEach [b] X.env = [(false, eval b X.env)] := by rfl) : PI X tg (.Call (.Name "range" p) [a, b] [] pos) (TIt g W (toMi (wR2 L))) := by
  refine PI.im (pi_range2 hg hm ha hs hs2) fun σ H R' q => TL.imp (wOf_read q) fun vs H1 ⟨ρ1, us, h1, l, r, c1, ef, k⟩ => ?_
  unfold vR2 at ef
  split at ef
  · rename_i i j
    obtain ⟨v, w, rfl, rr, rr'⟩ := two_of r
    cases ed : decide (-(2 ^ 62) ≤ i ∧ i < 2 ^ 62 ∧ -(2 ^ 62) ≤ j ∧ j < 2 ^ 62) with
    | false => rw [ed, if_neg Bool.false_ne_true] at ef; cases ef
    | true =>
      rw [ed, if_pos rfl] at ef
      cases ef
      obtain ⟨h1, h2, h3, h4⟩ := of_decide_eq_true ed
      exact ⟨i, j, by rw [rr, rr'], ⟨h1, h2, h3, h4⟩, k _ itF_range⟩
  · cases ef
theorem wi_enum {p tpos : Pos} {elts : List Expr} {kk : Nat} (hK : X.K = g.K := by assumption) (hg : Gl X "enumerate") (hm : X.mg "enumerate" = none) (ha : PA X [a] (TL g W L)) (hs : starEach [a] X.env = [(false, eval a X.env)] := by rfl) : PI X (.Tuple elts kk tpos) (.Call (.Name "enumerate" p) [a] [] pos) (TIt g W (toMi (wEnum L))) := by
  refine PI.im (pi_enumK hg hm ha hs) fun σ H R' q => TL.imp (wOf_read q) fun vs H1 ⟨ρ1, us, h1, l, r, c1, ef, k⟩ => ?_
  rw [hK]
  unfold vEnum at ef
  split at ef
  · rename_i u
    obtain ⟨v, rfl, rr⟩ := one_of r
    cases ed : datSeq u with
    | none => rw [ed] at ef; cases ef
    | some kd =>
      obtain ⟨k1, ds⟩ := kd
      rw [ed] at ef
      cases ef
      obtain ⟨ad, vs, rfl, hq, ha⟩ := dat_ok rr ed
      exact ⟨k1, ad, vs, rfl, hq.hle c1.fzH, k _ (itF_enum hq ha)⟩
  · cases ef
theorem wi_zip {p tpos : Pos} {elts : List Expr} {kk : Nat} (hK : X.K = g.K := by assumption) (hg : Gl X "zip") (hm : X.mg "zip" = none) (ha : PA X [a, b] (TL g W L)) (hs : starEach [a, b] X.env = (false, eval a X.env) :: starEach [b] X.env := by rfl) (hpl : (backTo pos (starEach [b] X.env)).any (·.1) = false := by rfl) : PI X (.Tuple elts kk tpos) (.Call (.Name "zip" p) [a, b] [] pos) (TIt g W (toMi (wZip L))) := by
  refine PI.im (pi_zipK hg hm ha hs hpl) fun σ H R' q => TL.imp (wOf_read q) fun vs H1 ⟨ρ1, us, h1, l, r, c1, ef, k⟩ => ?_
  rw [hK]
  unfold vZip at ef
  split at ef
  · rename_i u u'
    obtain ⟨v, w, rfl, rr, rr'⟩ := two_of r
    cases ed : datSeq u with
    | none => rw [ed] at ef; cases ef
    | some kd =>
      cases ed' : datSeq u' with
      | none => rw [ed, ed'] at ef; cases ef
      | some kd' =>
        obtain ⟨k1, ds⟩ := kd
        obtain ⟨k2, ds'⟩ := kd'
        rw [ed, ed'] at ef
        cases ef
        obtain ⟨ad, vs, rfl, hq, ha⟩ := dat_ok rr ed
        obtain ⟨ad', vs', rfl, hq', ha'⟩ := dat_ok rr' ed'
        exact ⟨k1, k2, ad, ad', vs, vs', rfl, hq.hle c1.fzH, hq'.hle c1.fzH, k _ (itF_zip hq ha hq' ha')⟩
  · cases ef
theorem itF_str {ρ : Wd} {z : Str} : ItOk g ρ (itF (z.cps.toList.map fun c => .str ⟨#[c]⟩)) (Its z) := fun ρ2 i h H e2 c2 => by
  unfold itF
  by_cases hi : i ≤ (z.cps.toList.map fun c => U.str ⟨#[c]⟩).length
  · rw [if_pos hi]
    cases ex : (z.cps.toList.map fun c => U.str ⟨#[c]⟩)[i]? with
    | none =>
      have hl := List.getElem?_eq_none_iff.mp ex
      rw [List.length_map, Array.length_toList] at hl
      exact ⟨rfl, hl⟩
    | some x =>
      rw [List.getElem?_map, Array.getElem?_toList] at ex
      cases ec : z.cps[i]? with
      | none => rw [ec] at ex; cases ex
      | some c =>
        rw [ec] at ex
        cases ex
        refine ⟨(Array.getElem?_eq_some_iff.mp ec).1, fun v H' y => ?_⟩
        obtain ⟨rfl, c', ec', rfl⟩ := y
        rw [ec] at ec'
        cases ec'
        exact ⟨ρ2, Wd.refl _, c2, rfl⟩
  · rw [if_neg hi]
    trivial
theorem wi_str {tg : Expr} (ha : PE X a (T g W A)) : PI X tg a (TIt g W (toMi (wStr A))) := by
  refine PI.im (pi_str ha) fun σ H R' q => T.imp (w1Of_read q) fun v H1 ⟨ρ1, u, h1, l, r, c1, ef, k⟩ => ?_
  unfold vStr at ef
  split at ef
  · rename_i z
    cases ef
    exact ⟨z, r, k _ itF_str⟩
  · cases ef
end

/-! ### for over a fixed walk -/
def loopF (t : Gt) (b : Ms) : List U → Sl → Mh → RS
  | [], s, h => .nx s h
  | x :: xs, s, h => match t x s h with
    | some s1 => match b s1 h with
      | .nx s2 h2 => loopF t b xs s2 h2
      | .ct s2 h2 => loopF t b xs s2 h2
      | .bk s2 h2 => .nx s2 h2
      | r => r
    | none => .stuck
def sForF (m : Mw) (t : Gt) (b : Ms) : Ms := fun s h => (m s h).bindS s fun us h1 => if decide (us.length < lim) then loopF t b us s h1 else .stuck
theorem loop_eq {t : Gt} {b : Ms} {us : List U} : ∀ {n i : Nat} {s : Sl} {h : Mh}, i ≤ us.length → us.length < n + i → loopS (itF us) t b n i s h = loopF t b (us.drop i) s h := fun {n} => by
  induction n with
  | zero => intro i s h h1 h2; omega
  | succ n ih =>
    intro i s h h1 h2
    unfold loopS itF
    rw [if_pos h1]
    cases ei : us[i]? with
    | none =>
      have hl := List.getElem?_eq_none_iff.mp ei
      rw [List.drop_eq_nil_of_le hl]
      rfl
    | some x =>
      obtain ⟨hl, hx⟩ := List.getElem?_eq_some_iff.mp ei
      rw [List.drop_eq_getElem_cons hl, hx]
      simp only [loopF]
      cases et : t x s h with
      | none => rfl
      | some s1 =>
        simp only
        cases eb : b s1 h with
        | nx s2 h2' => exact ih hl (by omega)
        | ct s2 h2' => exact ih hl (by omega)
        | bk s2 h2' => rfl
        | rt u h2' => rfl
        | ex c f s2 h2' => rfl
        | stuck => rfl
section
variable {X : Cx} {g : Gc} {W : WX} {M : Ms} {pos : Pos}
theorem s_forF {tg iter : Expr} {body : List Stmt} {m : Mw} {is : List Nat} {t : Gt} (hp : PassesOwn (model X.prog X.w) X.A X.env X.xe) (hc : X.calm = true) (hi : PI X tg iter (TIt g W (toMi m))) (hg : PG X tg (TGm g is t)) (hb : PSs X body (TSm g W M))
    (hs : ∀ x, foldedSetIterable iter X.env x = pure x := by intro _; rfl) : PS X (.For tg iter body [] pos) (TSm g W (sForF m t M)) := by
  refine PS.im (s_for hp hc hi hg hb hs) fun D σ H ⟨ρ, s, h, hs, cs, p⟩ => ⟨ρ, s, h, hs, cs, ?_⟩
  unfold sFor toMi
  unfold sForF at p
  cases em : m s h with
  | ok us h1 =>
    rw [em] at p
    simp only [R.bind, R.bindS] at p ⊢
    cases eo : decide (us.length < lim) with
    | true =>
      rw [eo, if_pos rfl] at p
      have hz := of_decide_eq_true eo
      rw [loop_eq (Nat.zero_le _) (by simpa using hz), List.drop_zero]
      exact p
    | false => rw [eo, if_neg Bool.false_ne_true] at p; exact p.elim
  | ex c f h1 => rw [em] at p; exact p
  | stuck => rw [em] at p; exact p.elim
end
end Vm

set_option Elab.async false
set_option linter.all false
set_option maxRecDepth 100000
set_option maxHeartbeats 4100000
namespace Vm
open L2 PyProof.Rows PySem PySem.Spec

/-! ### comprehensions over fixed walks, frozen -/
def loopCF (t : Gt) (q : Mb) (e : Me) (s : Sl) : List U → Mh → R (List U)
  | [], h => .ok [] h
  | x :: xs, h => match t x s h with
    | some s1 => match q s1 h with
      | .ok true h2 => match e s1 h2 with
        | .ok y h3 => match loopCF t q e s xs h3 with
          | .ok ys h4 => .ok (y :: ys) h4
          | _ => .stuck
        | _ => .stuck
      | .ok false h2 => loopCF t q e s xs h2
      | _ => .stuck
    | none => .stuck
def mLcF (m : Mw) (t : Gt) (q : Mb) (e : Me) (vs : List Nat) : Me := fun s h => (m s h).bind fun us h1 => if decide (us.length < lim) then (match loopCF t q e (wipeM s vs) us h1 with
  | .ok ys h2 => newL ys h2
  | _ => .stuck) else .stuck
/-- what is left behind the acc so far -/
def lcRest (t : Gt) (q : Mb) (e : Me) (s : Sl) (acc : List U) (us : List U) (h : Mh) : R U := match loopCF t q e s us h with
  | .ok ys h2 => newL (acc ++ ys) h2
  | _ => .stuck
theorem loopCF_cons {t : Gt} {q : Mb} {e : Me} {s s1 : Sl} {us : List U} {x y : U} {h h2 h3 : Mh} (et : t x s h = some s1) (eq : q s1 h = .ok true h2) (ee : e s1 h2 = .ok y h3) : loopCF t q e s (x :: us) h = (match loopCF t q e s us h3 with
    | .ok ys h4 => .ok (y :: ys) h4
    | _ => .stuck) := by
  rw [loopCF, et]
  simp only [eq, ee]
theorem lcRest_cons {t : Gt} {q : Mb} {e : Me} {s s1 : Sl} {acc us : List U} {x y : U} {h h2 h3 : Mh} (et : t x s h = some s1) (eq : q s1 h = .ok true h2) (ee : e s1 h2 = .ok y h3) : lcRest t q e s acc (x :: us) h = lcRest t q e s (acc ++ [y]) us h3 := by
  unfold lcRest
  rw [loopCF_cons et eq ee]
  cases loopCF t q e s us h3 with
  | ok ys h4 => simp only [List.append_assoc, List.singleton_append]
  | ex c f h4 => rfl
  | stuck => rfl
theorem lcRest_skip {t : Gt} {q : Mb} {e : Me} {s s1 : Sl} {acc us : List U} {x : U} {h h2 : Mh} (et : t x s h = some s1) (eq : q s1 h = .ok false h2) : lcRest t q e s acc (x :: us) h = lcRest t q e s acc us h2 := by
  unfold lcRest
  rw [loopCF, et]
  simp only [eq]
section
variable {g : Gc} {W : WX}
theorem lc_readF {m : Mw} {is : List Nat} {t : Gt} {q : Mb} {el : Me} {vs : List Nat} (hv : ∀ i ∈ is, i ∈ vs) {σ : L2.St} {H : Hp} {Q : VK} (z : T g W (mLcF m t q el vs) σ H Q) : tLc (TIt g W (toMi m)) (TGm g is t) (TB g W0 q) (T g W0 el) vs σ H Q := by
  obtain ⟨ρ0, s, h0, hs0, cs0, p0⟩ := z
  refine ⟨ρ0, s, h0, hs0, cs0, ?_⟩
  unfold mLcF at p0
  unfold toMi
  cases em : m s h0 with
  | ex c f h1 => rw [em] at p0; exact p0
  | stuck => rw [em] at p0; exact p0.elim
  | ok us h1 =>
  rw [em] at p0
  simp only [R.bind] at p0 ⊢
  cases eo : decide (us.length < lim) with
  | false => rw [eo, if_neg Bool.false_ne_true] at p0; exact p0.elim
  | true =>
  rw [eo, if_pos rfl] at p0
  have hlim := of_decide_eq_true eo
  have p1 : Post g (Rl g) ρ0 (lcRest t q el (wipeM s vs) [] us h1) Q (WE W σ) := by
    unfold lcRest
    simpa using p0
  intro ρ1 J H1 e1 c1 k1
  have hs1 : Rsl g ρ1 s σ := Rsl.mono e1 hs0
  intro D hD
  have cD : Cs g ρ1 h1 (upd H1 D (.lst [])) := c1.skip hD
  have aD : Away ρ1 h1 (upd H1 D (.lst [])) D := ⟨(c1.out hD).fz, (c1.out hD).lk, (c1.out hD).as⟩
  refine ⟨fun i n H => ∃ ρ h acc accv, Wd.Le ρ1 ρ ∧ Cs g ρ h H ∧ Away ρ h H D ∧ H D = some (.lst accv) ∧ Rls g ρ acc accv ∧ acc.length ≤ i ∧ i ≤ us.length ∧ n = us.length - i ∧ Post g (Rl g) ρ (lcRest t q el (wipeM s vs) acc (us.drop i) h) Q (WE W σ),
    ⟨us.length, ρ1, h1, [], [], Wd.refl _, cD, aD, upd_same, .nil, Nat.le_refl _, Nat.zero_le _, rfl, Post.mono e1 p1⟩, ?_⟩
  rintro i n H ⟨ρ, h, acc, accv, e2, cs, aw, eD, ra, la, li, rfl, p⟩
  have ws : Rsl g ρ (wipeM s vs) (wipe σ vs) := Rsl.mono e2 (Rsl.wipe hs1 vs)
  have cL := cs.hold aw eD
  have lxL : Wd.Lx ρ (ρ.hold D (.lst accv)) := ⟨List.prefix_refl _, fun _ _ q => q⟩
  have kk := k1 (ρ.hold D (.lst accv)) i h H (e2.lx.trans lxL) cL
  have nfD : ∀ {H' : Hp}, H' D = some (.lst accv) → (∀ o w, H' D ≠ some (.frz o w)) ∧ (∀ φ : Heap → Prop, H' D ≠ some (HO.ext φ)) ∧ ∀ gs, H' D ≠ some (.xd gs) := fun e => nfL e
  cases ei : us[i]? with
  | none =>
    have hl := List.getElem?_eq_none_iff.mp ei
    unfold itF at kk
    rw [if_pos li, ei] at kk
    obtain ⟨_, st⟩ := kk
    refine .inl ⟨st, ?_⟩
    rw [List.drop_eq_nil_of_le hl] at p
    have p : Post g (Rl g) ρ (newL (acc ++ []) h) Q (WE W σ) := p
    rw [List.append_nil] at p
    unfold newL at p
    cases ep : pdsOf acc with
    | none => rw [ep] at p; exact p.elim
    | some ds =>
      rw [ep] at p
      obtain ⟨c3, le3⟩ := cs.frzOld aw eD (fun _ _ z => by cases z)
      have same : (ρ.frz D (.lst accv)).fz D = some (.lst accv) := upd_same
      exact p (ρ.frz D (.lst accv)) (.ref D) H le3 c3 ⟨rfl, .lst same (DqAll.hle le3.fz _ _ (pds_ok ra ep))⟩
  | some x =>
    obtain ⟨hl, hx⟩ := List.getElem?_eq_some_iff.mp ei
    unfold itF at kk
    rw [if_pos li, ei] at kk
    obtain ⟨go, yl⟩ := kk
    rw [List.drop_eq_getElem_cons hl, hx] at p
    refine .inr ⟨go, fun H' => ∃ ρ h acc accv, Wd.Le ρ1 ρ ∧ Cs g ρ h H' ∧ Away ρ h H' D ∧ H' D = some (.lst accv) ∧ Rls g ρ acc accv ∧ acc.length ≤ i + 1 ∧ i + 1 ≤ us.length ∧ Post g (Rl g) ρ (lcRest t q el (wipeM s vs) acc (us.drop (i + 1)) h) Q (WE W σ),
      fun H' ⟨r1, r2, r3, r4, r5, r6, r7, r8, r9, r10, r11, r12⟩ => ⟨us.length - (i + 1), by omega, r1, r2, r3, r4, r5, r6, r7, r8, r9, r10, r11, rfl, r12⟩, fun v H' y => ?_⟩
    obtain ⟨ρ2, f2, c2, r2⟩ := yl v H' y
    refine ⟨ρ2, x, wipeM s vs, h, r2, Rsl.mono f2 (show Rsl g (ρ.hold D (.lst accv)) _ _ from Paired.mapP ws fun x y r => by
      cases x with
      | none => trivial
      | some u =>
        cases y with
        | none => exact r
        | some v => exact Rl.mx lxL r), c2, ?_⟩
    cases et : t x (wipeM s vs) h with
    | none =>
      unfold lcRest loopCF at p
      rw [et] at p
      exact p.elim
    | some s1 =>
      refine fun σ1 hs1 hw1 => ⟨(hw1 vs hv).trans wipe_self, ρ2, s1, h, hs1, c2, ?_⟩
      cases eq : q s1 h with
      | ex c f h3 =>
        unfold lcRest loopCF at p
        rw [et] at p
        simp only [eq] at p
        exact p.elim
      | stuck =>
        unfold lcRest loopCF at p
        rw [et] at p
        simp only [eq] at p
        exact p.elim
      | ok k h3 =>
        intro ρ3 k' H3 f3 c3 r3
        cases r3
        have f23 := f2.trans f3
        cases k with
        | false =>
          rw [if_neg
                     Bool.false_ne_true]
          rw [lcRest_skip et eq] at p
          have eD3 := f23.same c3
          have ff := f23.freed aw
          have c3' := c3.freed f23 aw cs (nfD eD3) (.lst accv)
          have eu : upd H3 D (.lst accv) = H3 := by
            funext b
            by_cases z : b = D
            · rw [z, upd_same, eD3]
            · rw [upd_ne z]
          rw [eu] at c3'
          exact ⟨_, h3, acc, accv, e2.trans ff, c3', f23.away aw c3, eD3, Rls.mono ff ra, by omega, hl, Post.mono ff p⟩
        | true =>
          rw [if_pos rfl]
          refine ⟨ρ3, s1, h3, Rsl.mono f3 hs1, c3, ?_⟩
          cases ee : el s1 h3 with
          | ex c f h4 =>
            unfold lcRest loopCF at p
            rw [et] at p
            simp only [eq, ee] at p
            exact p.elim
          | stuck =>
            unfold lcRest loopCF at p
            rw [et] at p
            simp only [eq, ee] at p
            exact p.elim
          | ok y h4 =>
            rw [lcRest_cons et eq ee] at p
            intro ρ4 yv H4 f4 c4 r4
            have f24 := f23.trans f4
            have eD4 := f24.same c4
            have ff := f24.freed aw
            have c4' := c4.freed f24 aw cs (nfD eD4) (.lst (accv ++ [yv]))
            have aw4 := f24.away aw c4
            refine ⟨accv, eD4, by rw [← Paired.length ra]; exact lim_line (by unfold lim at hlim; omega), ⟨ρ4.as, ρ4.fz, ρ.lk⟩, h4, acc ++ [y], accv ++ [yv], e2.trans ff, c4', ⟨aw4.fz, aw4.lk, aw4.as⟩, upd_same, Paired.app (Rls.mono ff ra) (.cons (Rl.mx ⟨List.prefix_refl _, fun _ _ q => q⟩ r4) .nil), ?_, hl, Post.mono ff p⟩
            rw [List.length_append]
            show acc.length + 1 ≤ i + 1
            omega
theorem e_lcF {X : Cx} {pos : Pos} {elt tg iter : Expr} {ifs : List Expr} {scope : Scope} {own : List (Str × Nat)} {m : Mw} {is : List Nat} {t : Gt} {q : Mb} {el : Me} (hc : X.calm = true) (hN : X.N.Nodup) (hi : PI X tg iter (TIt g W (toMi m))) (ok : BlkOk X.N X.env.scope scope own)
    (hg : ∀ (s : Shared) (H : Hp) (C : Addr) (cl : List (Str × Addr)) (fp : List Addr), PG (X.blk s H scope (compEnvC scope cl C X.env) fp) tg (TGm g is t)) (ht : ∀ (s : Shared) (H : Hp) (C : Addr) (cl : List (Str × Addr)) (fp : List Addr), PTs (X.blk s H scope (compEnvC scope cl C X.env) fp) ifs (TB g W0 q))
    (he : ∀ (s : Shared) (H : Hp) (C : Addr) (cl : List (Str × Addr)) (fp : List Addr), PE (X.blk s H scope (compEnvC scope cl C X.env) fp) elt (T g W0 el)) (hv : ∀ i ∈ is, i ∈ own.map (·.2)) (hs : ∀ x, foldedSetIterable iter X.env x = pure x := by intro _; rfl) :
    PE X (.ListComp elt [⟨tg, iter, ifs, 0⟩] scope pos) (T g W (mLcF m t q el (own.map (·.2)))) :=
  PE.im (pe_lc hc hN hi ok hg ht he hs) fun σ H Q z => lc_readF hv z
theorem s_setLcF {X : Cx} {pos : Pos} {i : Nat} {y : Str} {py spos : Pos} {elt tg iter : Expr} {ifs : List Expr} {scope : Scope} {own : List (Str × Nat)} {m : Mw} {is : List Nat} {t : Gt} {q : Mb} {el : Me} (hc : X.calm = true) (hN : X.N.Nodup) (hy : X.N[i]? = some y) (hyl : X.env.scope.names.lookup y = some .local)
    (hsw : swapsWith (.ListComp elt [⟨tg, iter, ifs, 0⟩] scope pos) (some (.Name y py)) spos.line X.env = pure true) (hi : PI X tg iter (TIt g W (toMi m))) (ok : BlkOk X.N X.env.scope scope own)
    (hg : ∀ (s : Shared) (H : Hp) (C : Addr) (cl : List (Str × Addr)) (fp : List Addr), PG (X.blk s H scope (compEnvC scope cl C X.env) fp) tg (TGm g is t)) (ht : ∀ (s : Shared) (H : Hp) (C : Addr) (cl : List (Str × Addr)) (fp : List Addr), PTs (X.blk s H scope (compEnvC scope cl C X.env) fp) ifs (TB g W0 q))
    (he : ∀ (s : Shared) (H : Hp) (C : Addr) (cl : List (Str × Addr)) (fp : List Addr), PE (X.blk s H scope (compEnvC scope cl C X.env) fp) elt (T g W0 el)) (hv : ∀ i ∈ is, i ∈ own.map (·.2)) (hs : ∀ x, foldedSetIterable iter X.env x = pure x := by intro _; rfl) :
    PS X (.Assign [.Name y py] (.ListComp elt [⟨tg, iter, ifs, 0⟩] scope pos) spos) (TSm g W (sAsg (mLcF m t q el (own.map (·.2))) (gtN i))) :=
  PS.im (ps_setLc hc hN hy hyl hsw hi ok hg ht he hs) fun D σ H z => lc_readF hv (AtS.seqE (rel := Rl g) (k := fun u s h1 => .nx (s.set i (some u)) h1) z fun ρ1 u s h1 v H1 hs c1 r1 p =>
    p ρ1 _ H1 (Wd.refl _) c1 (Paired.set (F := Rol g ρ1) (x := some u) (y := some v) r1 i hs))
end
end Vm

set_option Elab.async false
set_option linter.all false
set_option maxRecDepth 100000
set_option maxHeartbeats 4100000
namespace Vm
open L2 PyProof.Rows PySem PySem.Spec

/-! ### a def whose arguments and answer are frozen: no mirror's heap -/
def pureU : U → Bool
  | .loc _ => false
  | .scr => false
  | .exn => false
  | .pr _ => false
  | _ => true
def pureF (fs : List (Str × U)) : Bool := fs.all fun p => pureU p.2
def pureO : O → Bool
  | .lst xs => xs.all pureU
  | .ins _ fs => pureF fs
  | _ => false
inductive P0 where
  | ok (u : U) | ex (c : Nat) (f : List (Str × U)) | stuck
def P0.at (p : P0) (h : Mh) : R U := match p with
  | .ok u => .ok u h
  | .ex c f => .ex c f h
  | .stuck => .stuck
/-- what is handed back, frozen -/
def outU (h : Mh) (u : U) : Option U := match u with
  | .loc k => match h[k]? with
    | some (.lst xs) => match pdsOf xs with
      | some ds => some (.dat (.list ds))
      | none => none
    | some (.ins c fs) => if pureF fs then (if c = dctNo then none else some (.obj c fs)) else none
    | _ => none
  | .scr => none
  | .exn => none
  | .pr _ => none
  | u => some u
def toP : RS → P0
  | .nx _ _ => .ok .non
  | .rt u h => match outU h u with
    | some u' => .ok u'
    | none => .stuck
  | .ex c f _ _ => if pureF f then .ex c f else .stuck
  | _ => .stuck
def slotsOf (N : Nat) (us : List U) : Sl := us.map some ++ List.replicate (N - us.length) none
def pfn (N : Nat) (m : Ms) : List U → P0 := fun us => if us.all pureU then toP (m (slotsOf N us) []) else .stuck
def runP (p : List U → P0) : List U → Mh → R U := fun us h => (p us).at h
section
variable {g : Gc} {ρ ρ' ρ2 : Wd} {h h' h1 : Mh} {H H' H2 : Hp}
theorem Rl.ro {u : U} {v : V} (r : Rl g ρ u v) (k : pureU u = true) : Ro g.K g.cl ρ.fz u v := by
  cases u with
  | non => cases r; exact .non
  | bl b => cases r; exact .bl b
  | int b => cases r; exact .int b
  | str b => cases r; exact .str b
  | dat d => exact .dat r.1 r.2
  | obj c fs => exact r
  | loc n => cases k
  | scr => cases k
  | exn => cases k
  | pr ds => cases k
theorem Ro.rl {u : U} {v : V} (r : Ro g.K g.cl ρ.fz u v) : Rl g ρ u v := by
  cases r with
  | non => rfl
  | bl b => rfl
  | int b => rfl
  | str b => rfl
  | dat k r => exact ⟨k, r⟩
  | obj n e rf => exact .obj n e rf
  | dct e rf => exact .dct e rf
theorem Rl.pu {u : U} {v : V} (r : Rl g ρ u v) (k : pureU u = true) (e : Hle ρ.fz ρ'.fz) : Rl g ρ' u v := Ro.rl (Ro.hle e (r.ro k))
theorem Rls.pu : ∀ {us : List U} {vs : List V}, Rls g ρ us vs → us.all pureU = true → Hle ρ.fz ρ'.fz → Rls g ρ' us vs
  | _, _, .nil, _, _ => .nil
  | _, _, .cons q t, k, e => by
    rw [List.all_cons, Bool.and_eq_true] at k
    exact .cons (q.pu k.1 e) (Rls.pu t k.2 e)
theorem Rf.pu : ∀ {us : List (Str × U)} {vs : List (Str × V)}, Rf g ρ us vs → pureF us = true → Hle ρ.fz ρ'.fz → Rf g ρ' us vs
  | _, _, .nil, _, _ => .nil
  | _, _, .cons q t, k, e => by
    unfold pureF at k
    rw [List.all_cons, Bool.and_eq_true] at k
    exact .cons ⟨q.1, q.2.pu k.1 e⟩ (Rf.pu t k.2 e)
theorem Rf.rof : ∀ {us : List (Str × U)} {vs : List (Str × V)}, Rf g ρ us vs → pureF us = true → Rof g.K g.cl ρ.fz us vs
  | _, _, .nil, _ => .nil
  | (n, u) :: us, (n', v) :: vs, .cons q t, k => by
    unfold pureF at k
    rw [List.all_cons, Bool.and_eq_true] at k
    obtain ⟨q1, q2⟩ := q
    have q1 : n = n' := q1
    subst q1
    exact .cons (q2.ro k.1) (Rf.rof t k.2)
theorem Rof.rf : ∀ {us : List (Str × U)} {vs : List (Str × V)}, Rof g.K g.cl ρ.fz us vs → Rf g ρ us vs
  | _, _, .nil => .nil
  | _, _, .cons q t => .cons ⟨rfl, Ro.rl q⟩ (Rof.rf t)
/-- objects where the heap only grew -/
theorem Om.grow {a : Addr} {o : O} (e : Wd.Lx ρ ρ') (m : Om g ρ H a o) (k : Hle H H') : Om g ρ' H' a o := by
  cases o with
  | lst xs => obtain ⟨vs, r, q⟩ := m; exact ⟨vs, Rls.mx e r, k _ _ q⟩
  | tup xs => obtain ⟨vs, o, r, d, q⟩ := m; exact ⟨vs, o, Rls.mx e r, d, k _ _ q⟩
  | tpl xs => obtain ⟨vs, r, q⟩ := m; exact ⟨vs, Rls.mx e r, k _ _ q⟩
  | ins c fs => obtain ⟨dx, gs, r, q⟩ := m; exact ⟨dx, gs, Rf.mx e r, k _ _ q⟩
  | exc c fs =>
    rcases m with ⟨e0, q⟩ | ⟨dx, gs, r, q, q2⟩
    · exact .inl ⟨e0, k _ _ q⟩
    · exact .inr ⟨dx, gs, Rf.mx e r, k _ _ q, k _ _ q2⟩
  | ded => obtain ⟨u, q⟩ := m; exact ⟨u, k _ _ q⟩
/-- the callee's world: all that stands is locked -/
def Wd.call (r : Wd) (H : Hp) : Wd := ⟨[], r.fz, H⟩
theorem Cs.call (c : Cs g ρ h H) (hg : g.exn = none) : Cs g (ρ.call H) [] H :=
  ⟨rfl, fun n o b e => (by simp at e), List.nodup_nil, c.scr, fun a dd fs ex => (by rw [hg] at ex; cases ex), c.fzH, fun _ _ q => q, fun n o b e => (by simp at e), c.nfl⟩
/-- back from the callee, with F frozen now -/
theorem Cs.back {F : Hp} (c : Cs g ρ h H) (hg : g.exn = none) (le : Wd.Le (ρ.call H) ρ2) (c2 : Cs g ρ2 h1 H2) (f1 : Hle ρ2.fz F) (f2 : Hle F H2) (f3 : ∀ b, H b ≠ none → ρ2.fz b = none → F b = none) (f4 : ∀ a o xs, F a ≠ some (.frz o (.lst xs))) :
    Wd.Le ρ ⟨ρ.as, F, ρ.lk⟩ ∧ Cs g ⟨ρ.as, F, ρ.lk⟩ h H2 := by
  have hl : Hle H H2 := fun b o q => c2.lkH b o (by rw [le.lk]; exact q)
  have w : Wd.Le ρ ⟨ρ.as, F, ρ.lk⟩ := ⟨List.prefix_refl _, fun b o q => f1 b o (le.fz b o q), rfl, fun b q1 q2 => by
    have q3 : H b ≠ none := fun z => q2 (by
      cases e : ρ.lk b with
      | none => rfl
      | some o => rw [c.lkH b o e] at z; cases z)
    exact f3 b q3 (le.nw b q1 q3)⟩
  refine ⟨w, c.len, fun n o b e1 e2 => Om.grow w.lx (c.at_ n o b e1 e2) hl, c.inj, c2.scr, fun a dd fs ex => (by rw [hg] at ex; cases ex), f2, fun b o q => hl b o (c.lkH b o q), fun n o b e1 e2 => ?_, f4⟩
  obtain ⟨q1, q2⟩ := c.apt n o b e1 e2
  refine ⟨q1, fun hd => ?_⟩
  have q3 : H b ≠ none := fun z => by
    obtain ⟨u, e⟩ := (c.at_ n o b e1 e2).some
    rw [z] at e
    cases e
  exact f3 b q3 (le.nw b (q2 hd) q3)
theorem out_ok {u u' : U} {v : V} (c : Cs g ρ h H) (hg : g.exn = none) (le : Wd.Le (ρ.call H) ρ2) (c2 : Cs g ρ2 h1 H2) (r : Rl g ρ2 u v) (e : outU h1 u = some u') : ∃ F, Wd.Le ρ ⟨ρ.as, F, ρ.lk⟩ ∧ Cs g ⟨ρ.as, F, ρ.lk⟩ h H2 ∧ Rl g ⟨ρ.as, F, ρ.lk⟩ u' v := by
  have plain : pureU u = true → u' = u → ∃ F, Wd.Le ρ ⟨ρ.as, F, ρ.lk⟩ ∧ Cs g ⟨ρ.as, F, ρ.lk⟩ h H2 ∧ Rl g ⟨ρ.as, F, ρ.lk⟩ u' v := fun k z => by
    subst z
    obtain ⟨w, cc⟩ := c.back hg le c2 (F := ρ2.fz) (fun _ _ q => q) c2.fzH (fun _ _ q => q) c2.nfl
    exact ⟨ρ2.fz, w, cc, r.pu k fun _ _ q => q⟩
  have fresh : ∀ {k : Nat} {o : O} {a : Addr} {cell : HO}, h1[k]? = some o → ρ2.as[k]? = some a → o ≠ .ded → H2 a = some cell → (∀ o xs, cell ≠ .frz o (.lst xs)) →
      Wd.Le ρ ⟨ρ.as, upd ρ2.fz a cell, ρ.lk⟩ ∧ Cs g ⟨ρ.as, upd ρ2.fz a cell, ρ.lk⟩ h H2 ∧ Hle ρ2.fz (upd ρ2.fz a cell) := fun {k o a cell} ek ea hd hc hf => by
    obtain ⟨q1, q2⟩ := c2.apt k o a ek ea
    have hz := q2 hd
    rw [le.lk] at q1
    have q1 : H a = none := q1
    have f1 : Hle ρ2.fz (upd ρ2.fz a cell) := fun b u q => by
      rw [upd_ne (fun z => by rw [z, hz] at q; cases q)]
      exact q
    have z := c.back hg le c2 (F := upd ρ2.fz a cell) f1 (fun b u q => by
      by_cases z : b = a
      · subst z
        rw [upd_same] at q
        cases q
        exact hc
      · rw [upd_ne z] at q
        exact c2.fzH b u q) (fun b hb q => by
      rw [upd_ne (fun z => by rw [z] at hb; exact hb q1)]
      exact q) (fun b o xs q => by
      by_cases z : b = a
      · subst z
        rw [upd_same] at q
        exact hf _ _ (Option.some.inj q)
      · rw [upd_ne z] at q
        exact c2.nfl b o xs q)
    exact ⟨z.1, z.2, f1⟩
  unfold outU at e
  split at e
  · rename_i k
    obtain ⟨a, ea, rfl⟩ := r
    split at e
    · rename_i xs ek
      cases ep : pdsOf xs with
      | none => rw [ep] at e; cases e
      | some ds =>
        rw [ep] at e
        cases e
        obtain ⟨vs, rv, ha⟩ := c2.at_ _ _ a ek ea
        obtain ⟨w, cc, f1⟩ := fresh ek ea (fun z => nomatch z) ha (fun _ _ z => by cases z)
        exact ⟨_, w, cc, rfl, .lst upd_same (DqAll.hle f1 _ _ (pds_ok rv ep))⟩
    · rename_i c' fs ek
      cases ep : pureF fs with
      | false => rw [ep, if_neg Bool.false_ne_true] at e; cases e
      | true =>
        rw [ep, if_pos rfl] at e
        by_cases hn : c' = dctNo
        · rw [if_pos hn] at e
          cases e
        rw [if_neg hn] at e
        cases e
        obtain ⟨dx, gs, rf, ha⟩ := c2.at_ _ _ a ek ea
        obtain ⟨w, cc, f1⟩ := fresh ek ea (fun z => nomatch z) ha (fun _ _ z => by cases z)
        exact ⟨_, w, cc, .obj hn upd_same (Rof.hle f1 (rf.rof ep))⟩
    · cases e
  · cases e
  · cases e
  · cases e
  · rename_i n1 n2 n3 n4
    cases e
    refine plain ?_ rfl
    cases u with
    | loc k => exact (n1 k rfl).elim
    | scr => exact (n2 rfl).elim
    | exn => exact (n3 rfl).elim
    | pr ds => exact (n4 ds rfl).elim
    | _ => rfl
/-- the body from the frozen promise -/
theorem run_readP {N : List Str} {n : Nat} {m : Ms} {vs : List V} {Q : VK} {E : XK} (hg : g.exn = none) (q : spM g n (runP (pfn N.length m)) vs H Q E) : TSm g (fun cls d _ H => E cls d H) m { nx := fun _ H' => Q .non H', rt := Q } (L2.start N vs) H := by
  obtain ⟨_, ρ, us, h, r, cs, p⟩ := q
  unfold runP pfn at p
  cases ea : us.all pureU with
  | false => rw [ea, if_neg Bool.false_ne_true] at p; exact p.elim
  | true =>
  rw [ea, if_pos rfl] at p
  have r0 : Rls g (ρ.call H) us vs := r.pu ea fun _ _ q => q
  refine ⟨ρ.call H, slotsOf N.length us, [], ?_, cs.call hg, ?_⟩
  · unfold L2.start slotsOf
    refine Paired.app (Rls.somes r0) ?_
    rw [← Paired.length r]
    exact Paired.rep (F := Rol g (ρ.call H)) (x := none) (y := none) trivial _
  · cases em : m (slotsOf N.length us) [] with
    | nx s h1 =>
      rw [em] at p
      intro ρ2 σ H2 e2 c2 _
      obtain ⟨w, cc⟩ := cs.back hg e2 c2 (F := ρ2.fz) (fun _ _ q => q) c2.fzH (fun _ _ q => q) c2.nfl
      exact p _ .non H2 w cc rfl
    | rt u h1 =>
      rw [em] at p
      unfold toP at p
      simp only at p
      cases eo : outU h1 u with
      | none => rw [eo] at p; exact p.elim
      | some u' =>
        rw [eo] at p
        intro ρ2 v H2 e2 c2 r2
        obtain ⟨F, w, cc, rr⟩ := out_ok cs hg e2 c2 r2 eo
        exact p _ v H2 w cc rr
    | bk s h1 => rw [em] at p; exact p.elim
    | ct s h1 => rw [em] at p; exact p.elim
    | ex c f s h1 =>
      rw [em] at p
      unfold toP at p
      simp only at p
      cases ef : pureF f with
      | false => rw [ef, if_neg Bool.false_ne_true] at p; exact p.elim
      | true =>
        rw [ef, if_pos rfl] at p
        intro ρ2 σ H2 e2 c2 _
        obtain ⟨w, cc⟩ := cs.back hg e2 c2 (F := ρ2.fz) (fun _ _ q => q) c2.fzH (fun _ _ q => q) c2.nfl
        have pp := p _ H2 w cc
        exact ⟨pp.1, fun d gs f0 hd rf => pp.2 d gs f0 hd (rf.pu ef fun _ _ q => q)⟩
    | stuck => rw [em] at p; exact p.elim
end
theorem fn_okP {P : Program} {w : World} {K : PySem.W.Frag} {mg : Str → Option Value} {base : Heap} {g : Gc} (hg : g.exn = none) {x qual : Str} {st : Stmt} {f : Addr} {fd : FuncData} {N ps : List Str} {k : Nat} {m : Ms} (F : Fun K x qual st f fd) (S : FnScope N ps (defScope st))
    (body : ∀ (cdv : Value) (A : Around) (outer : List Env) (s : Shared) (H : Hp) (E : XK), Room k (A.deeper (envOfC qual (defScope st) s.heap.objs.size f cdv)) →
      (cxOf (L2.CX P w) P w K mg base N qual (defScope st) f cdv A outer s H E).A.units + 65 < cLine →
      PassesOwn (model P w) (cxOf (L2.CX P w) P w K mg base N qual (defScope st) f cdv A outer s H E).A (cxOf (L2.CX P w) P w K mg base N qual (defScope st) f cdv A outer s H E).env (cxOf (L2.CX P w) P w K mg base N qual (defScope st) f cdv A outer s H E).xe →
      Takes (cxOf (L2.CX P w) P w K mg base N qual (defScope st) f cdv A outer s H E) (fun cls d _ H => E cls d H) →
      PSs (cxOf (L2.CX P w) P w K mg base N qual (defScope st) f cdv A outer s H E) (defBody st) (TSm g (fun cls d _ H => E cls d H) m)) :
    FnOk P w K mg base (L2.CX P w) (k + 1) f fd ps (spM g ps.length (runP (pfn N.length m))) :=
  F.okX S spM_len fun cdv A outer s H vs Q E hr h => ⟨_, body cdv A outer s H E hr (by have := hr.un; show (A.deeper (envOfC qual (defScope st) s.heap.objs.size f cdv)).units + 65 < cLine; omega) (passes_of rfl) (takes_of rfl rfl rfl rfl), run_readP hg h⟩
end Vm

set_option Elab.async false
set_option linter.all false
set_option maxRecDepth 100000
set_option maxHeartbeats 4100000
namespace Vm
open L2 PyProof.Rows PySem PySem.Spec

/-! ### a def whose first argument is an object that it changes, all else frozen -/
inductive PM where
  | ok (u : U) (o : O) | ex (c : Nat) (f : List (Str × U)) (o : O) | stuck
def outM (h : Mh) (u : U) : Option U := match u with
  | .loc 0 => none
  | u => outU h u
def toM : RS → PM
  | .nx _ (o :: _) => if pureO o then .ok .non o else .stuck
  | .rt u (o :: t) => if pureO o then (match outM (o :: t) u with
    | some u' => .ok u' o
    | none => .stuck) else .stuck
  | .ex c f _ (o :: _) => if pureO o && pureF f then .ex c f o else .stuck
  | _ => .stuck
def pmf (N : Nat) (m : Ms) : O → List U → PM := fun o us => toM (m (slotsOf N (.loc 0 :: us)) [o])
def runM (p : O → List U → PM) : List U → Mh → R U := fun us h => match us with
  | .loc k :: rest => match h[k]? with
    | some o => if pureO o && rest.all pureU then (match p o rest with
      | .ok u o' => .ok u (h.set k o')
      | .ex c f o' => .ex c f (h.set k o')
      | .stuck => .stuck) else .stuck
    | none => .stuck
  | _ => .stuck
section
variable {g : Gc} {ρ ρ' ρ2 : Wd} {h h' h1 : Mh} {H H' H2 : Hp}
theorem Om.pu {a : Addr} {o : O} (m : Om g ρ H a o) (k : pureO o = true) (e : Hle ρ.fz ρ'.fz) : Om g ρ' H a o := by
  cases o with
  | lst xs => obtain ⟨vs, r, q⟩ := m; exact ⟨vs, Rls.pu r k e, q⟩
  | ins c fs => obtain ⟨dx, gs, r, q⟩ := m; exact ⟨dx, gs, Rf.pu r k e, q⟩
  | _ => cases k
def Wd.callM (r : Wd) (H : Hp) (a : Addr) : Wd := ⟨[a], r.fz, fun b => if b = a then none else H b⟩
theorem callM_ne {r : Wd} {a b : Addr} (h : b ≠ a) : (r.callM H a).lk b = H b := by
  show (if b = a then none else H b) = H b
  rw [if_neg h]
theorem callM_eq {r : Wd} {a : Addr} : (r.callM H a).lk a = none := by
  show (if a = a then none else H a) = none
  rw [if_pos rfl]
theorem Cs.callM {k : Nat} {o : O} {a : Addr} (c : Cs g ρ h H) (hg : g.exn = none) (ek : h[k]? = some o) (ea : ρ.as[k]? = some a) (po : pureO o = true) : Cs g (ρ.callM H a) [o] H :=
  ⟨rfl, fun n o' b e1 e2 => by
    cases n with
    | zero =>
      have e1 : some o = some o' := e1
      have e2 : some a = some b := e2
      cases e1
      cases e2
      exact (c.at_ k o a ek ea).pu po fun _ _ q => q
    | succ n => simp at e1, by
    show [a].Nodup
    simp, c.scr, fun a dd fs ex => (by rw [hg] at ex; cases ex), c.fzH, fun b u q => by
    by_cases z : b = a
    · subst z
      rw [callM_eq] at q
      cases q
    · rw [callM_ne z] at q
      exact q, fun n o' b e1 e2 => by
    cases n with
    | zero =>
      have e1 : some o = some o' := e1
      have e2 : some a = some b := e2
      cases e1
      cases e2
      exact ⟨callM_eq, (c.apt k o a ek ea).2⟩
    | succ n => simp at e1, c.nfl⟩
theorem ded_of {o : O} (k : pureO o = true) : o ≠ .ded := fun z => by
  subst z
  cases k
theorem Om.growA {a b : Addr} {o : O} (e : Wd.Lx ρ ρ') (m : Om g ρ H b o) (hb : b ≠ a) (k : ∀ b u, b ≠ a → H b = Option.some u → H' b = Option.some u) (hx : ∀ φ : Heap → Prop, H a ≠ Option.some (HO.ext φ)) : Om g ρ' H' b o := by
  cases o with
  | lst xs => obtain ⟨vs, r, q⟩ := m; exact ⟨vs, Rls.mx e r, k _ _ hb q⟩
  | tup xs => obtain ⟨vs, o, r, d, q⟩ := m; exact ⟨vs, o, Rls.mx e r, d, k _ _ hb q⟩
  | tpl xs => obtain ⟨vs, r, q⟩ := m; exact ⟨vs, Rls.mx e r, k _ _ hb q⟩
  | ins c fs => obtain ⟨dx, gs, r, q⟩ := m; exact ⟨dx, gs, Rf.mx e r, k _ _ hb q⟩
  | exc c fs =>
    rcases m with ⟨e0, q⟩ | ⟨dx, gs, r, q, q2⟩
    · exact .inl ⟨e0, k _ _ hb q⟩
    · exact .inr ⟨dx, gs, Rf.mx e r, k _ _ hb q, k _ _ (fun z => by rw [z] at q2; exact hx _ q2) q2⟩
  | ded => obtain ⟨u, q⟩ := m; exact ⟨u, k _ _ hb q⟩
theorem pure_nx {a : Addr} {o : O} (m : Om g ρ H a o) (po : pureO o = true) : ∀ φ : Heap → Prop, H a ≠ some (HO.ext φ) := fun φ z => by
  cases o with
  | lst xs => obtain ⟨vs, r, q⟩ := m; rw [q] at z; cases z
  | ins c fs => obtain ⟨dx, gs, r, q⟩ := m; rw [q] at z; cases z
  | _ => cases po
theorem Cs.backM {F : Hp} {k : Nat} {o o' : O} {t : Mh} {a : Addr} (c : Cs g ρ h H) (hg : g.exn = none) (ek : h[k]? = some o) (ea : ρ.as[k]? = some a) (po : pureO o = true) (po' : pureO o' = true) (le : Wd.Le (ρ.callM H a) ρ2) (c2 : Cs g ρ2 (o' :: t) H2)
    (f1 : Hle ρ2.fz F) (f2 : Hle F H2) (f3 : ∀ b, (H b ≠ none ∨ b = a) → ρ2.fz b = none → F b = none) (f4 : ∀ a o xs, F a ≠ some (.frz o (.lst xs))) : Wd.Le ρ ⟨ρ.as, F, ρ.lk⟩ ∧ Cs g ⟨ρ.as, F, ρ.lk⟩ (h.set k o') H2 := by
  have a0 : ρ2.as[0]? = some a := pre_get le (show (ρ.callM H a).as[0]? = some a from rfl)
  have lka := (c.apt k o a ek ea).1
  have hl : ∀ b u, b ≠ a → H b = some u → H2 b = some u := fun b u hb q => c2.lkH b u (by rw [le.lk, callM_ne hb]; exact q)
  have hlk : ∀ b, ρ.lk b ≠ none → b ≠ a ∧ H b ≠ none := fun b q => ⟨fun z => q (by rw [z]; exact lka), fun z => q (by
    cases e : ρ.lk b with
    | none => rfl
    | some o => rw [c.lkH b o e] at z; cases z)⟩
  have w : Wd.Le ρ ⟨ρ.as, F, ρ.lk⟩ := ⟨List.prefix_refl _, fun b o q => f1 b o (le.fz b o q), rfl, fun b q1 q2 => by
    obtain ⟨n1, n2⟩ := hlk b q2
    exact f3 b (.inl n2) (le.nw b q1 (by rw [callM_ne n1]; exact n2))⟩
  have m2 := c2.at_ 0 o' a rfl a0
  refine ⟨w, by rw [List.length_set]; exact c.len, fun n ob b e1 e2 => ?_, c.inj, c2.scr, fun a dd fs ex => (by rw [hg] at ex; cases ex), f2, fun b u q => ?_, fun n ob b e1 e2 => ?_, f4⟩
  · by_cases hn : k = n
    · subst hn
      have e2 : ρ.as[k]? = some b := e2
      rw [ea] at e2
      cases e2
      have hlen : k < (h.set k o').length := (List.getElem?_eq_some_iff.mp e1).1
      rw [List.length_set] at hlen
      rw [List.getElem?_set_self hlen] at e1
      cases e1
      exact m2.pu po' f1
    · rw [List.getElem?_set_ne hn] at e1
      have hb : b ≠ a
                      := fun z => by
        subst z
        obtain ⟨h1, q1⟩ := List.getElem?_eq_some_iff.mp ea
        obtain ⟨h2, q2⟩ := List.getElem?_eq_some_iff.mp (show ρ.as[n]? = some b from e2)
        exact hn ((List.getElem_inj c.inj).mp (q1.trans q2.symm))
      exact Om.growA w.lx (c.at_ n ob b e1 e2) hb hl (pure_nx (c.at_ k o a ek ea) po)
  · obtain ⟨n1, n2⟩ := hlk b (by rw [show ρ.lk b = some u from q]; exact fun z => nomatch z)
    exact hl b u n1 (c.lkH b u q)
  · by_cases hn : k = n
    · subst hn
      have e2 : ρ.as[k]? = some b := e2
      rw [ea] at e2
      cases e2
      exact ⟨lka, fun _ => f3 a (.inr rfl) ((c2.apt 0 o' a rfl a0).2 (ded_of po'))⟩
    · rw [List.getElem?_set_ne hn] at e1
      obtain ⟨q1, q2⟩ := c.apt n ob b e1 e2
      refine ⟨q1, fun hd => ?_⟩
      have hb : b ≠ a
                      := fun z => by
        subst z
        obtain ⟨h1, q1⟩ := List.getElem?_eq_some_iff.mp ea
        obtain ⟨h2, q2⟩ := List.getElem?_eq_some_iff.mp (show ρ.as[n]? = some b from e2)
        exact hn ((List.getElem_inj c.inj).mp (q1.trans q2.symm))
      have q3 : H b ≠ none := fun z => by
        obtain ⟨u, e⟩ := (c.at_ n ob b e1 e2).some
        rw [z] at e
        cases e
      exact f3 b (.inl q3) (le.nw b (q2 hd) (by rw [callM_ne hb]; exact q3))
theorem out_okM {k : Nat} {o o' : O} {t : Mh} {a : Addr} {u u' : U} {v : V} (c : Cs g ρ h H) (hg : g.exn = none) (ek : h[k]? = some o) (ea : ρ.as[k]? = some a) (po : pureO o = true) (po' : pureO o' = true) (le : Wd.Le (ρ.callM H a) ρ2) (c2 : Cs g ρ2 (o' :: t) H2) (r : Rl g ρ2 u v) (e : outM (o' :: t) u = some u') :
    ∃ F, Wd.Le ρ ⟨ρ.as, F, ρ.lk⟩ ∧ Cs g ⟨ρ.as, F, ρ.lk⟩ (h.set k o') H2 ∧ Rl g ⟨ρ.as, F, ρ.lk⟩ u' v := by
  have a0 : ρ2.as[0]? = some a := pre_get le (show (ρ.callM H a).as[0]? = some a from rfl)
  have plain : pureU u = true → u' = u → ∃ F, Wd.Le ρ ⟨ρ.as, F, ρ.lk⟩ ∧ Cs g ⟨ρ.as, F, ρ.lk⟩ (h.set k o') H2 ∧ Rl g ⟨ρ.as, F, ρ.lk⟩ u' v := fun kk z => by
    subst z
    obtain ⟨w, cc⟩ := c.backM hg ek ea po po' le c2 (F := ρ2.fz) (fun _ _ q => q) c2.fzH (fun _ _ q => q) c2.nfl
    exact ⟨ρ2.fz, w, cc, r.pu kk fun _ _ q => q⟩
  have fresh : ∀ {j : Nat} {ob : O} {b : Addr} {cell : HO}, j ≠ 0 → (o' :: t)[j]? = some ob → ρ2.as[j]? = some b → ob ≠ .ded → H2 b = some cell → (∀ o xs, cell ≠ .frz o (.lst xs)) →
      Wd.Le ρ ⟨ρ.as, upd ρ2.fz b cell, ρ.lk⟩ ∧ Cs g ⟨ρ.as, upd ρ2.fz b cell, ρ.lk⟩ (h.set k o') H2 ∧ Hle ρ2.fz (upd ρ2.fz b cell) := fun {j ob b cell} hj ek' eb hd hc hf => by
    obtain ⟨q1, q2⟩ := c2.apt j ob b ek' eb
    have hz := q2 hd
    have hb : b ≠ a
                    := fun z => by
      subst z
      obtain ⟨h1, q1⟩ := List.getElem?_eq_some_iff.mp a0
      obtain ⟨h2, q2⟩ := List.getElem?_eq_some_iff.mp eb
      exact hj ((List.getElem_inj c2.inj).mp (q2.trans q1.symm))
    rw [le.lk, callM_ne hb] at q1
    have f1 : Hle ρ2.fz (upd ρ2.fz b cell) := fun b' u q => by
      rw [upd_ne (fun z => by rw [z, hz] at q; cases q)]
      exact q
    have z := c.backM hg ek ea po po' le c2 (F := upd ρ2.fz b cell) f1 (fun b' u q => by
      by_cases z : b' = b
      · subst z
        rw [upd_same] at q
        cases q
        exact hc
      · rw [upd_ne z] at q
        exact c2.fzH b' u q) (fun b' hb' q => by
      rw [upd_ne (fun z => by
        rcases hb' with hb' | hb'
        · rw [z] at hb'; exact hb' q1
        · exact hb (z.symm.trans hb'))]
      exact q) (fun b' ob xs q => by
      by_cases z : b' = b
      · subst z
        rw [upd_same] at q
        exact hf _ _ (Option.some.inj q)
      · rw [upd_ne z] at q
        exact c2.nfl b' ob xs q)
    exact ⟨z.1, z.2, f1⟩
  have e0 : ∀ j, u = .loc j → j ≠ 0 := fun j z0 z => by
    subst z0 z
    cases e
  have e' : outU (o' :: t) u = some u' := by
    unfold outM at e
    split at e
    · cases e
    · exact e
  unfold outU at e'
  split at e'
  · rename_i j
    have hj := e0 j rfl
    obtain ⟨b, eb, rfl⟩ := r
    split at e'
    · rename_i xs ek'
      cases ep : pdsOf xs with
      | none => rw [ep] at e'; cases e'
      | some ds =>
        rw [ep] at e'
        cases e'
        obtain ⟨vs, rv, ha⟩ := c2.at_ _ _ b ek' eb
        obtain ⟨w, cc, f1⟩ := fresh hj ek' eb (fun z => nomatch z) ha (fun _ _ z => by cases z)
        exact ⟨_, w, cc, rfl, .lst upd_same (DqAll.hle f1 _ _ (pds_ok rv ep))⟩
    · rename_i c' fs ek'
      cases ep : pureF fs with
      | false => rw [ep, if_neg Bool.false_ne_true] at e'; cases e'
      | true =>
        rw [ep, if_pos rfl] at e'
        by_cases hn : c' = dctNo
        · rw [if_pos hn] at e'
          cases e'
        rw [if_neg hn] at e'
        cases e'
        obtain ⟨dx, gs, rf, ha⟩ := c2.at_ _ _ b ek' eb
        obtain ⟨w, cc, f1⟩ := fresh hj ek' eb (fun z => nomatch z) ha (fun _ _ z => by cases z)
        exact ⟨_, w, cc, .obj hn upd_same (Rof.hle f1 (rf.rof ep))⟩
    · cases e'
  · cases e'
  · cases e'
  · cases e'
  · rename_i n1 n2 n3 n4
    cases e'
    refine plain ?_ rfl
    cases u with
    | loc k => exact (n1 k rfl).elim
    | scr => exact (n2 rfl).elim
    | exn => exact (n3 rfl).elim
    | pr ds => exact (n4 ds rfl).elim
    | _ => rfl
theorem run_readM {N : List Str} {n : Nat} {m : Ms} {vs : List V} {Q : VK} {E : XK} (hg : g.exn = none) (q : spM g n (runM (pmf N.length m)) vs H Q E) : TSm g (fun cls d _ H => E cls d H) m { nx := fun _ H' => Q .non H', rt := Q } (L2.start N vs) H := by
  obtain ⟨_, ρ, us, h, r, cs, p⟩ := q
  unfold runM at p
  split at p
  case h_2 => exact p.elim
  rename_i k rest
  split at p
  case h_2 => exact p.elim
  rename_i o ek
  cases epo : (pureO o && rest.all pureU) with
  | false => rw [epo, if_neg Bool.false_ne_true] at p; exact p.elim
  | true =>
  rw [epo, if_pos rfl] at p
  rw [Bool.and_eq_true] at epo
  obtain ⟨po, pr⟩ := epo
  cases r with
  | cons r1 r2 =>
  rename_i vs1 _
  obtain ⟨a, ea, rfl⟩ := r1
  have cc := cs.callM hg ek ea po
  have r0 : Rls g (ρ.callM H a) (.loc 0 :: rest) (.ref a :: vs1) := .cons ⟨a, rfl, rfl⟩ (Rls.pu r2 pr fun _ _ q => q)
  refine ⟨ρ.callM H a, slotsOf N.length (.loc 0 :: rest), [o], ?_, cc, ?_⟩
  · unfold L2.start slotsOf
    refine Paired.app (Rls.somes r0) ?_
    rw [← Paired.length r0]
    exact Paired.rep (F := Rol g (ρ.callM H a)) (x := none) (y := none) trivial _
  · unfold pmf at p
    cases em : m (slotsOf N.length (.loc 0 :: rest)) [o] with
    | nx s h1 =>
      rw [em] at p
      cases h1 with
      | nil => exact p.elim
      | cons o' t =>
        unfold toM at p
        simp only at p
        cases po' : pureO o' with
        | false => rw [po', if_neg Bool.false_ne_true] at p; exact p.elim
        | true =>
          rw [po', if_pos rfl] at p
          intro ρ2 σ H2 e2 c2 _
          obtain ⟨w, c3⟩ := cs.backM hg ek ea po po' e2 c2 (F := ρ2.fz) (fun _ _ q => q) c2.fzH (fun _ _ q => q) c2.nfl
          exact p _ .non H2 w c3 rfl
    | rt u h1 =>
      rw [em] at p
      cases h1 with
      | nil => exact p.elim
      | cons o' t =>
        unfold toM at p
        simp only at p
        cases po' : pureO o' with
        | false => rw [po', if_neg Bool.false_ne_true] at p; exact p.elim
        | true =>
          rw [po', if_pos rfl] at p
          cases eo : outM (o' :: t) u with
          | none => rw [eo] at p; exact p.elim
          | some u' =>
            rw [eo] at p
            intro ρ2 v H2 e2 c2 r2
            obtain ⟨F, w, c3, rr⟩ := out_okM cs hg ek ea po po' e2 c2 r2 eo
            exact p _ v H2 w c3 rr
    | bk s h1 => rw [em] at p; exact p.elim
    | ct s h1 => rw [em] at p; exact p.elim
    | ex c f s h1 =>
      rw [em] at p
      cases h1 with
      | nil => exact p.elim
      | cons o' t =>
        unfold toM at p
        simp only at p
        cases ef : (pureO o' && pureF f) with
        | false => rw [ef, if_neg Bool.false_ne_true] at p; exact p.elim
        | true =>
          rw [ef, if_pos rfl] at p
          rw [Bool.and_eq_true] at ef
          intro ρ2 σ H2 e2 c2 _
          obtain ⟨w, c3⟩ := cs.backM hg ek ea po ef.1 e2 c2 (F := ρ2.fz) (fun _ _ q => q) c2.fzH (fun _ _ q => q) c2.nfl
          have pp := p _ H2 w c3
          exact ⟨pp.1, fun d gs f0 hd rf => pp.2 d gs f0 hd (rf.pu ef.2 fun _ _ q => q)⟩
    | stuck => rw [em] at p; exact p.elim
end
theorem fn_okM {P : Program} {w : World} {K : PySem.W.Frag} {mg : Str → Option Value} {base : Heap} {g : Gc} (hg : g.exn = none) {x qual : Str} {st : Stmt} {f : Addr} {fd : FuncData} {N ps : List Str} {k : Nat} {m : Ms} (F : Fun K x qual st f fd) (S : FnScope N ps (defScope st))
    (body : ∀ (cdv : Value) (A : Around) (outer : List Env) (s : Shared) (H : Hp) (E : XK), Room k (A.deeper (envOfC qual (defScope st) s.heap.objs.size f cdv)) →
      (cxOf (L2.CX P w) P w K mg base N qual (defScope st) f cdv A outer s H E).A.units + 65 < cLine →
      PassesOwn (model P w) (cxOf (L2.CX P w) P w K mg base N qual (defScope st) f cdv A outer s H E).A (cxOf (L2.CX P w) P w K mg base N qual (defScope st) f cdv A outer s H E).env (cxOf (L2.CX P w) P w K mg base N qual (defScope st) f cdv A outer s H E).xe →
      Takes (cxOf (L2.CX P w) P w K mg base N qual (defScope st) f cdv A outer s H E) (fun cls d _ H => E cls d H) →
      PSs (cxOf (L2.CX P w) P w K mg base N qual (defScope st) f cdv A outer s H E) (defBody st) (TSm g (fun cls d _ H => E cls d H) m)) :
    FnOk P w K mg base (L2.CX P w) (k + 1) f fd ps (spM g ps.length (runM (pmf N.length m))) :=
  F.okX S spM_len fun cdv A outer s H vs Q E hr h => ⟨_, body cdv A outer s H E hr (by have := hr.un; show (A.deeper (envOfC qual (defScope st) s.heap.objs.size f cdv)).units + 65 < cLine; omega) (passes_of rfl) (takes_of rfl rfl rfl rfl), run_readM hg h⟩
end Vm

set_option Elab.async false
set_option linter.all false
set_option maxRecDepth 100000
set_option maxHeartbeats 4100000
namespace Vm
open L2 PyProof.Rows PySem PySem.Spec

/-! ### instances, frozen or of the mirror's heap -/
def insD (c : Nat) (u : U) (h : Mh) : Option (List (Str × U)) := match u with
  | .loc n => match h[n]? with
    | some (.ins k fs) => if k = c then some fs else none
    | _ => none
  | .obj k fs => if k = c then (if c = dctNo then none else some fs) else none
  | _ => none
def mFldD (c : Nat) (f : Str) (a : Me) : Me := fun s h => (a s h).bind fun u h1 => match insD c u h1 with
  | some fs => match fs.lookup f with
    | some w => .ok w h1
    | none => .stuck
  | none => .stuck
def mMethD (c : Nat) (m : Str) (d : List U → Mh → R U) (o : Me) (a : Ml) : Me := fun s h => (o s h).bind fun u h1 => match insD c u h1 with
  | some fs => match fs.lookup m with
    | none => (a s h1).bind fun us h2 => d (u :: us) h2
    | some _ => .stuck
  | none => .stuck
def mPropD (c : Nat) (d : List U → Mh → R U) (o : Me) : Me := fun s h => (o s h).bind fun u h1 => match insD c u h1 with
  | some _ => nox (d [u] h1)
  | none => .stuck
/-- C(..), frozen: p is the mirror of __init__ -/
def mMakeD (c : Nat) (p : O → List U → PM) (a : Ml) : Me := fun s h => (a s h).bind fun us h1 => if us.all pureU then (match p (.ins c []) us with
  | .ok .non o => match outU [o] (.loc 0) with
    | some u => .ok u h1
    | none => .stuck
  | .ex cc f _ => if pureF f then .ex cc f h1 else .stuck
  | _ => .stuck) else .stuck
section
variable {X : Cx} {g : Gc} {W : WX} {A O' V' : Me} {L : Ml} {e o v : Expr} {es : List Expr} {f m x : Str} {pos p apos : Pos} {c : Nat}
theorem insD_ok {ρ : Wd} {h : Mh} {H : Hp} {u : U} {vv : V} {fs : List (Str × U)} (cs : Cs g ρ h H) (r : Rl g ρ u vv) (e : insD c u h = some fs) : ∃ a dx gs, vv = .ref a ∧ Rf g ρ fs gs ∧ H a = some (.ins (g.cl c) dx gs) := by
  unfold insD at e
  split at e
  · rename_i n
    split at e
    · rename_i k fs' en
      by_cases hk : k = c
      · rw [if_pos hk] at e
        cases e
        subst hk
        obtain ⟨a, ea, rfl⟩ := r
        obtain ⟨dx, gs, rf, q⟩ := cs.at_ _ _ a en ea
        exact ⟨a, dx, gs, rfl, rf, q⟩
      · rw [if_neg hk] at e
        cases e
    · cases e
  · rename_i k fs'
    by_cases hk : k = c
    · rw [if_pos hk] at e
      by_cases hd : c = dctNo
      · rw [if_pos hd] at e
        cases e
      · rw [if_neg hd] at e
        cases e
        subst hk
        cases r with
        | obj _ q rf => exact ⟨_, _, _, rfl, rf.rf, cs.fzH _ _ q⟩
        | dct _ _ => exact absurd rfl hd
    · rw [if_neg hk] at e
      cases e
  · cases e
theorem e_fldD (T : Cls X.K (g.cl c)) (nf : NoAttr X.K (g.cl c) f) (he : PE X e (Vm.T g W A)) (hb : attributeBase e f X.env (eval e X.env) = eval e X.env := by rfl) : PE X (.Attribute e f pos) (Vm.T g W (mFldD c f A)) := by
  refine PE.im (pe_fld he hb) fun σ H Q q => At.seq (rel := Rl g) q fun ρ1 u s h1 vv H1 hs1 c1 r1 p1 => ?_
  cases ei : insD c u h1 with
  | none => rw [ei] at p1; exact p1.elim
  | some fs =>
    rw [ei] at p1
    simp only at p1
    obtain ⟨a, dx, gs, rfl, rf, q⟩ := insD_ok c1 r1 ei
    cases el : fs.lookup f with
    | none => rw [el] at p1; exact p1.elim
    | some w =>
      rw [el] at p1
      obtain ⟨y, ey, ry⟩ := Rf.look rf el
      exact ⟨a, g.cl c, dx, gs, y, rfl, q, T, nf, ey, Post.here (rel := Rl g) p1 c1 ry⟩
theorem meth_readD {n : Nat} {d : List U → Mh → R U} {σ : L2.St} {H : Hp} {Q : VK} (hl : ∀ s h xs h', L s h = .ok xs h' → xs.length + 1 = n) (q : At g (Rl g) (mMethD c m d A L) (WE W σ) σ H Q) : tMethS (g.cl c) m (spM g n d) (WE W) (Vm.T g W A) (TL g W L) σ H Q := by
  refine At.seq (rel := Rl g) q fun ρ1 u s h1 vv H1 hs1 c1 r1 p1 => ?_
  cases ei : insD c u h1 with
  | none => rw [ei] at p1; exact p1.elim
  | some fs =>
    rw [ei] at p1
    simp only at p1
    obtain ⟨a, dx, gs, rfl, rf, qa⟩ := insD_ok c1 r1 ei
    cases el : fs.lookup m with
    | some w => rw [el] at p1; exact p1.elim
    | none =>
      rw [el] at p1
      refine ⟨a, dx, gs, rfl, qa, Rf.look0 rf el, ρ1, s, h1, hs1, c1, ?_⟩
      cases eL : L s h1 with
      | ok us h2 =>
        rw [eL] at p1
        intro ρ2 vs H2 e2 c2 r2
        exact ⟨by rw [List.length_cons, ← Paired.length r2]; exact hl _ _ _ _ eL, ρ2, u :: us, h2, .cons (Rl.mono e2 r1) r2, c2, Post.mono e2 p1⟩
      | ex cc ff h2 => rw [eL] at p1; exact p1
      | stuck => rw [eL] at p1; exact p1.elim
theorem e_methD {k : Nat} {fm : Addr} {fd : FuncData} {ps : List Str} {n : Nat} {d : List U → Mh → R U} (T : Cls X.K (g.cl c)) (hm : Meth X.K (g.cl c) m fm) (F : FnOk X.prog X.w X.K X.mg X.base (L2.CX X.prog X.w) k fm fd ps (spM g n d)) (hr : Room k X.A) (hb : Binds X.K fd ps []) (tk : Takes X W) (he : PE X o (Vm.T g W A)) (ha : PA X (e :: es) (TL g W L))
    (hl : ∀ s h xs h', L s h = .ok xs h' → xs.length + 1 = n) {pl : Sem Bool} (hst : starEach (e :: es) X.env = (false, eval e X.env) :: starEach es X.env := by rfl) (hpl : (backTo pos (starEach es X.env)).any (·.1) = false := by rfl) (ht : eval (.Call (.Attribute o m apos) (e :: es) [] pos) X.env = (do
      let ov ← eval o X.env
      standAt apos.atName
      let (f, first) ← holding [ov] (getMethod ov m pl); callWith pos f first (backTo pos (starEach (e :: es) X.env)) (backToKw pos (keywordEach [] X.env))) := by rfl) :
    PE X (.Call (.Attribute o m apos) (e :: es) [] pos) (Vm.T g W (mMethD c m d A L)) :=
  PE.im (pe_methT he T hm F hr hb (fun σ => passAt tk σ) ha hst hpl ht) fun σ H Q q => meth_readD hl q
theorem e_methD0 {k : Nat} {fm : Addr} {fd : FuncData} {ps : List Str} {n : Nat} {d : List U → Mh → R U} (T : Cls X.K (g.cl c)) (hm : Meth X.K (g.cl c) m fm) (F : FnOk X.prog X.w X.K X.mg X.base (L2.CX X.prog X.w) k fm fd ps (spM g n d)) (hr : Room k X.A) (hb : Binds X.K fd ps []) (tk : Takes X W) (he : PE X o (Vm.T g W A))
    (hl : 1 = n) {pl : Sem Bool} (ht : eval (.Call (.Attribute o m apos) [] [] pos) X.env = (do
      let ov ← eval o X.env
      standAt apos.atName
      let (f, first) ← holding [ov] (getMethod ov m pl); callWith pos f first (backTo pos (starEach [] X.env)) (backToKw pos (keywordEach [] X.env))) := by rfl) :
    PE X (.Call (.Attribute o m apos) [] [] pos) (Vm.T g W (mMethD c m d A lN)) := by
  refine PE.im (pe_methT0 he T hm F hr hb (fun σ => passAt tk σ) ht) fun σ H Q q => ?_
  refine At.seq (rel := Rl g) q fun ρ1 u s h1 vv H1 hs1 c1 r1 p1 => ?_
  cases ei : insD c u h1 with
  | none => rw [ei] at p1; exact p1.elim
  | some fs =>
    rw [ei] at p1
    simp only at p1
    obtain ⟨a, dx, gs, rfl, rf, qa⟩ := insD_ok c1 r1 ei
    cases el : fs.lookup m with
    | some w => rw [el] at p1; exact p1.elim
    | none =>
      rw [el] at p1
      exact ⟨a, dx, gs, rfl, qa, Rf.look0 rf el, hl, ρ1, [u], h1, .cons r1 .nil, c1, p1⟩
theorem e_propD {k : Nat} {pa fm : Addr} {fd : FuncData} {ps : List Str} {n : Nat} {d : List U → Mh → R U} (T : Cls X.K (g.cl c)) (hp : PropOf X.K (g.cl c) f pa fm) (F : FnOk X.prog X.w X.K X.mg X.base (L2.CX X.prog X.w) k fm fd ps (spM g n d)) (hr : Room (k + 1) X.A) (hb : Binds X.K fd ps []) (hn : 1 = n) (he : PE X e (Vm.T g W A)) (hab : attributeBase e f X.env (eval e X.env) = eval e X.env := by rfl) :
    PE X (.Attribute e f pos) (Vm.T g W (mPropD c d A)) := by
  refine PE.im (pe_prop (X := X) (E := E0) (dvs := []) (ds := []) he T hp F hr hb .nil (fun pins σ H s er s' I h => passL (X := X.nox) pins σ H s er s' I h) hab) fun σ H Q q => At.seq (rel := Rl g) q fun ρ1 u s h1 vv H1 hs1 c1 r1 p1 => ?_
  cases ei : insD c u h1 with
  | none => rw [ei] at p1; exact p1.elim
  | some fs =>
    rw [ei] at p1
    simp only at p1
    obtain ⟨a, dx, gs, rfl, rf, qa⟩ := insD_ok c1 r1 ei
    refine ⟨a, dx, gs, rfl, qa, hn, ρ1, [u], h1, .cons r1 .nil, c1, ?_⟩
    cases ed : d [u] h1 with
    | ok w h2 => rw [ed] at p1; exact p1
    | ex cc ff h2 => rw [ed] at p1; exact p1.elim
    | stuck => rw [ed] at p1; exact p1.elim
theorem e_makeD {k : Nat} {fI : Addr} {fd : FuncData} {ps : List Str} {n : Nat} {pi : O → List U → PM} (hgx : g.exn = none) (M : Mk X.K (g.cl c) fI) (F : FnOk X.prog X.w X.K X.mg X.base (L2.CX X.prog X.w) k fI fd ps (spM g n (runM pi))) (hr : Room (k + 1) X.A) (hg : Gl X x) (hm : X.mg x = some (.ref (g.cl c))) (hb : Binds X.K fd ps []) (tk : Takes X W)
    (ha : PA X (e :: es) (TL g W L)) (hl : ∀ s h xs h', L s h = .ok xs h' → xs.length + 1 = n) (hdb : (x == ("__debug__" : Str)) = false := by decide) (he : starEach (e :: es) X.env = (false, eval e X.env) :: starEach es X.env := by rfl) (hpl : (backTo pos (starEach es X.env)).any (·.1) = false := by rfl) :
    PE X (.Call (.Name x p) (e :: es) [] pos) (Vm.T g W (mMakeD c pi L)) := by
  refine PE.im (pe_makeT M F hr hg hm hb (fun σ => passAt tk σ) ha hdb he hpl) fun σ H Q q => ?_
  obtain ⟨ρ, s, h, hs, cs, p⟩ := q
  refine ⟨ρ, s, h, hs, cs, ?_⟩
  unfold mMakeD at p
  cases eL : L s h with
  | ex cc ff h1 => rw [eL] at p; exact p
  | stuck => rw [eL] at p; exact p.elim
  | ok us h1 =>
  rw [eL] at p
  simp only [R.bind] at p
  intro ρ1 vs H1 e1 c1 r1 x dx hx hdx hne
  cases epu : us.all pureU with
  | false => rw [epu, if_neg Bool.false_ne_true] at p; exact p.elim
  | true =>
  rw [epu, if_pos rfl] at p
  have c2 : Cs g ρ1 h1 (upd H1 dx (.own x)) := c1.skip hdx
  have hx2 : upd H1 dx (.own x) x = none := by rw [upd_ne hne.symm]; exact hx
  have c3 : Cs g (ρ1.snoc x) (h1 ++ [.ins c []]) (upd (upd H1 dx (.own x)) x (.ins (g.cl c) dx [])) := c2.new hx2 ⟨dx, [], .nil, upd_same⟩
  have ex : (ρ1.snoc x).as[h1.length]? = some x := new_get ρ1 x c1.len
  have en : (h1 ++ [O.ins c []])[h1.length]? = some (.ins c []) := by simp
  have c4 := c3.callM hgx en ex rfl
  have lkeq : ((ρ1.snoc x).callM (upd (upd H1 dx (.own x)) x (.ins (g.cl c) dx [])) x).lk = upd H1 dx (.own x) := by
    funext b
    by_cases z : b = x
    · subst z
      rw [callM_eq, hx2]
    · rw [callM_ne z, upd_ne z]
  have back : ∀ {ρ4 : Wd}, Wd.Le ((ρ1.snoc x).callM (upd (upd H1 dx (.own x)) x (.ins (g.cl c) dx [])) x) ρ4 → Wd.Le (ρ1.call (upd H1 dx (.own x))) ρ4 := fun {ρ4} le =>
    ⟨List.nil_prefix, le.fz, le.lk.trans lkeq, fun b q1 q2 => le.nw b q1 (by rw [lkeq]; exact q2)⟩
  refine ⟨by rw [List.length_cons, ← Paired.length r1]; exact hl _ _ _ _ eL, (ρ1.snoc x).callM (upd (upd H1 dx (.own x)) x (.ins (g.cl c) dx [])) x, .loc 0 :: us, [.ins c []], .cons ⟨x, rfl, rfl⟩ (Rls.pu r1 epu fun _ _ q => q), c4, ?_⟩
  unfold runM
  simp only
            [List.getElem?_cons_zero]
  rw [if_pos (show (pureO (.ins c []) && us.all pureU) = true by rw [epu]; rfl)]
  cases ep : pi (.ins c []) us with
  | ok u o =>
    rw [ep] at p
    cases u with
    | non =>
      simp only at p
      cases eo : outU [o] (.loc 0) with
      | none => rw [eo] at p; exact p.elim
      | some u' =>
        rw [eo] at p
        intro ρ4 v4 H4 e4 c4' r4
        refine ⟨r4, ?_⟩
        have c4' : Cs g ρ4 [o] H4 := c4'
        have a0 : ρ4.as[0]? = some x := pre_get e4 rfl
        obtain ⟨F, w, cc, rr⟩ := out_ok c2 hgx (back e4) c4' (show Rl g ρ4 (.loc 0) (.ref x) from ⟨x, a0, rfl⟩) eo
        exact p _ (.ref x) H4 (e1.trans w) cc rr
    | _ => exact p.elim
  | ex cc ff o =>
    rw [ep] at p
    simp only at p
    cases ef : pureF ff with
    | false => rw [ef, if_neg Bool.false_ne_true] at p; exact p.elim
    | true =>
      rw [ef, if_pos rfl] at p
      intro ρ4 H4 e4 c4'
      have c4' : Cs g ρ4 [o] H4 := c4'
      obtain ⟨w, cc'⟩ := c2.back hgx (back e4) c4' (F := ρ4.fz) (fun _ _ q => q) c4'.fzH (fun _ _ q => q) c4'.nfl
      have pp := p _ H4 (e1.trans w) cc'
      exact ⟨pp.1, fun d gs f0 hd rf => pp.2 d gs f0 hd (rf.pu ef fun _ _ q => q)⟩
  | stuck => rw [ep] at p; exact p.elim
end
end Vm

set_option Elab.async false
set_option linter.all false
set_option maxRecDepth 100000
set_option maxHeartbeats 4100000
namespace Vm
open L2 PyProof.Rows PySem PySem.Spec

/-! ### a, b, .. = a tuple, a list -/
def gSqK (K : PySem.W.Frag) (n : Nat) (t : TGs) : TG := fun v σ H Q => ∃ k a xs, v = .ref a ∧ SqK k K H a xs ∧ xs.length = n ∧ t xs σ H Q
theorem pg_sqK {X : Cx} {pos : Pos} {es : List Expr} {k : Nat} {t : TGs} {n : Nat} (hc : X.calm = true) (h : PGs X es t)
    (hn : (assignEach es X.env).length = n := by rfl) (hst : (assignEach es X.env).findIdx? (·.1) = none := by rfl) : PG X (.Tuple es k pos) (gSqK X.K n t) := by
  refine ⟨fun pins s σ
                       H v u Q I r hw => ?_⟩
  obtain ⟨kk, a, xs, e1, hq, hl, hw⟩ := hw
  cases kk with
  | true => exact (pg_unl hc h hn hst).run pins s σ H v u Q I r ⟨a, xs, e1, hq, hl, hw⟩
  | false => exact (pg_tup hc h hn hst).run pins s σ H v u Q I r ⟨a, xs, e1, hq, hl, hw⟩
/-- what can be unpacked -/
def seqP (u : U) (h : Mh) : Option (List U) := match u with
  | .pr ds => some (ds.map ofPd)
  | u => match seqOf u h with
    | some (_, xs) => some xs
    | none => none
theorem seqP_ok {g : Gc} {ρ : Wd} {h : Mh} {H : Hp} (cs : Cs g ρ h H) {u : U} {v : V} {xs : List U} (r : Rl g ρ u v) (e : seqP u h = some xs) : ∃ k a vs, v = .ref a ∧ SqK k g.K H a vs ∧ Rls g ρ xs vs := by
  unfold seqP at e
  split at e
  · rename_i ds
    cases e
    obtain ⟨ad, vs, rfl, hf, ha⟩ := r
    exact ⟨false, ad, vs, rfl, SqT.of (cs.fzH _ _ hf), ofs_ok ha⟩
  · split at e
    · rename_i kk xs es
      cases e
      obtain ⟨ad, vs, rfl, rv, h1, h2⟩ := seq_ok cs r es
      cases kk with
      | true => exact ⟨true, ad, vs, rfl, SqL.of (h1 rfl), rv⟩
      | false => exact ⟨false, ad, vs, rfl, h2 rfl, rv⟩
    · cases e
def gtD (n : Nat) (b : Gts) : Gt := fun u s h => match seqP u h with
  | some xs => if xs.length = n then b xs s h else none
  | none => none
section
variable {X : Cx} {g : Gc} {W : WX} {A B Cc : Me} {a b c e : Expr} {pos : Pos} {L : Ml}
theorem g_tupD {es : List Expr} {k n : Nat} {is : List Nat} {ts : Gts} (hK : X.K = g.K := by assumption) (hc : X.calm = true) (h : PGs X es (TGsm g is ts))
    (hn : (assignEach es X.env).length = n := by rfl) (hst : (assignEach es X.env).findIdx? (·.1) = none := by rfl) : PG X (.Tuple es k pos) (TGm g is (gtD n ts)) := by
  refine PG.im (pg_sqK hc h hn hst) fun v σ H Q ⟨ρ, u, s, hh, r, hs, cs, p⟩ => ?_
  rw [hK]
  unfold gtD at p
  cases es : seqP u hh with
  | none => rw [es] at p; exact p.elim
  | some xs =>
    rw [es] at p
    simp only at p
    obtain ⟨kk, ad, vs, rfl, hq, rv⟩ := seqP_ok cs r es
    by_cases hl : xs.length = n
    · rw [if_pos hl] at p
      exact ⟨kk, ad, vs, rfl, hq, by rw [← Paired.length rv]; exact hl, ρ, xs, s, hh, rv, hs, cs, p⟩
    · rw [if_neg hl] at p
      exact p.elim
/-- a, b, c = x, y, z -/
def sPar3 (i j l : Nat) (L : Ml) : Ms := fun s h => (L s h).bindS s fun us h1 => match us with
  | [u, w, z] => .nx (((s.set i (some u)).set j (some w)).set l (some z)) h1
  | _ => .stuck
theorem three_of {ρ : Wd} {x y z : U} {vs : List V} (r : Rls g ρ [x, y, z] vs) : ∃ v w t, vs = [v, w, t] ∧ Rl g ρ x v ∧ Rl g ρ y w ∧ Rl g ρ z t := by
  cases r with
  | cons r1 r2 =>
    obtain ⟨w, t, rfl, r3, r4⟩ := two_of r2
    exact ⟨_, w, t, rfl, r1, r3, r4⟩
theorem s_par3 {i j l : Nat} {x y z : Str} {px py pz pt : Pos} {kt k2 pt2} (hc : X.calm = true) (hN : X.N.Nodup) (ha : PA X [a, b, c] (TL g W L)) (hi : X.N[i]? = some x := by rfl) (hj : X.N[j]? = some y := by rfl) (hl : X.N[l]? = some z := by rfl) (hij : i ≠ j := by decide) (hil : i ≠ l := by decide) (hjl : j ≠ l := by decide)
    (hx : X.env.scope.names.lookup x = some .local := by rfl) (hy : X.env.scope.names.lookup y = some .local := by rfl) (hz : X.env.scope.names.lookup z = some .local := by rfl)
    (hw : swappedStores [.Tuple [.Name x px, .Name y py, .Name z pz] kt pt] (.Tuple [a, b, c] k2 pt2) X.env = pure (some [x, y, z]) := by rfl) (hs : swapsWithSole [.Tuple [.Name x px, .Name y py, .Name z pz] kt pt] (.Tuple [a, b, c] k2 pt2) pos.line X.env = pure false := by rfl) :
    PS X (.Assign [.Tuple [.Name x px, .Name y py, .Name z pz] kt pt] (.Tuple [a, b, c] k2 pt2) pos) (TSm g W (sPar3 i j l L)) := by
  refine PS.im (ps_par3 hc hN hi hj hl hij hil hjl hx hy hz ha hw hs) fun D σ H q => AtS.seqE (rel := Rls g) (k := fun us s h1 => match us with | [u, w, z] => .nx (((s.set i (some u)).set j (some w)).set l (some z)) h1 | _ => .stuck) q fun ρ1 us s h1 vs H1 hs c1 r1 p => ?_
  split at p
  · rename_i u w z
    obtain ⟨v, v2, v3, rfl, q1, q2, q3⟩ := three_of r1
    exact ⟨v, v2, v3, rfl, p ρ1 _ H1 (Wd.refl _) c1 (Paired.set (F := Rol g ρ1) (x := some z) (y := some v3) q3 l (Paired.set (F := Rol g ρ1) (x := some w) (y := some v2) q2 j (Paired.set (F := Rol g ρ1) (x := some u) (y := some v) q1 i hs)))⟩
  · exact p.elim
end

/-! ### a method of a list or a tuple -/
def ExT (K : PySem.W.Frag) (H : Hp) (a : Addr) : Prop := ∃ xs, DT K H a xs
def tBMK (K : PySem.W.Frag) (r1 r2 : V → List V → Hp → VK → Prop) (to : TE) (t : TA) : TE := fun σ H Q => to σ H fun x H1 => ∃ a, x = .ref a ∧ (((∃ xs, SqL K H1 a xs) ∧ t σ H1 fun vs H2 => r1 x vs H2 Q) ∨ (ExT K H1 a ∧ t σ H1 fun vs H2 => r2 x vs H2 Q))
section
variable {X : Cx} {o e : Expr} {es : List Expr} {to : TE} {t : TA} {name : Str} {apos cpos : Pos} {id1 id2 : String} {r1 r2 : V → List V → Hp → VK → Prop}
theorem exT_is {pins : List (Addr × Obj)} {σ : L2.St} {H : Hp} {s : Shared} {a : Addr} (I : Inv X pins σ H s) (z : ExT X.K H a) : s.TypeIs (.ref a) "tuple" ∧ ∀ b, Value.ref a = .ref b → ∃ ob, s.heap.get? b = some ob ∧ ob.dict = none := by
  obtain ⟨xs, z⟩ := z
  rcases z with ⟨o, h, hd⟩ | ⟨o, its, n, h1, h2, hd, h3, _⟩
  · obtain ⟨⟨o', e1, e2, n, e3⟩, e4⟩ : (∃ o', s.heap.get? a = some o' ∧ o'.cls = .type "tuple" ∧ ∃ n, True) ∧ s.heap.get? a = some o := by
      obtain ⟨q1, q2, us, q3, o', q4, q5, _⟩ := I.hok a _ h
      exact ⟨⟨o', q4, q5, 0, trivial⟩, q1⟩
    refine ⟨⟨o', e1, e2⟩, fun b z => ?_⟩
    cases z
    exact ⟨o, e4, hd⟩
  · refine ⟨⟨o, I.kIn a o h1, h2⟩, fun b z => ?_⟩
    cases z
    exact ⟨o, I.kIn _ o h1, hd⟩
theorem pe_bmK (sl1 : Slot "list" name id1) (ty1 : typeOf (.builtin id1) = pure (.type "method_descriptor")) (hm1 : MtR X id1 r1) (sl2 : Slot "tuple" name id2) (ty2 : typeOf (.builtin id2) = pure (.type "method_descriptor")) (hm2 : MtR X id2 r2) (ho : PE X o to) (ha : PA X (e :: es) t)
    (hbase : attributeBase o name X.env
                                        (eval o X.env) = eval o X.env := by rfl)
    (hfew : ((backTo cpos (starEach (e :: es) X.env)).all (fun x => !x.1)
                                                                          && (backToKw cpos (keywordEach [] X.env)).all (fun x => x.1.isSome)
      && decide ((e :: es).length + ([] : List Keyword).length + (if ([]
                                                                         : List Keyword).isEmpty then 0 else 1) < 30)) = true := by rfl)
    (hline : (apos.endLine == cpos.line) = true := by rfl) (hs : starEach (e :: es) X.env = (false, eval e X.env)
                                                                                                                  :: starEach es X.env := by rfl) (hplain : (backTo cpos (starEach es X.env)).any (·.1) = false := by rfl) :
    PE X (.Call (.Attribute o name apos) (e :: es) [] cpos) (tBMK X.K r1 r2 to t) := by
  refine ⟨fun pins
                   s σ H Q I h => ?_⟩
  refine wpAny_Call_method_late hbase hfew hline rfl (thn (ho.run pins s σ H _ I h) fun v s1 ⟨x, H1, I1, rx, a, ex, q⟩ => ?_)
  subst ex
  rcases q with ⟨⟨xs, hq⟩, q1⟩ | ⟨hq, q1⟩
  · obtain ⟨h1, h2⟩ := tyV_is (T := "list") I1 rx (.inl ⟨rfl, xs, hq⟩)
    refine ⟨"list", id1, PySem.F.plainAttrs_list, sl1, ty1, h1, h2, ?_⟩
    have hA := ha.run cpos
                           pins s1 σ H1 _ I1 q1
    rw [hs] at hA ⊢
    refine Calls.callWith_builtin (by show (false || (backTo cpos (starEach es
                                                                               X.env)).any (·.1)) = false; rw [hplain] <;> rfl) (Calls.evalArgs_plain ?_)
    exact thn hA fun us s2 ⟨vs, H2, I2, r2', q2⟩ => hm1 pins s2 σ H2 (.ref a) vs v us Q I2 rx r2' q2
  · obtain rfl : v = Value.ref a := rx
    obtain ⟨h1, h2⟩ := exT_is I1 hq
    refine ⟨"tuple", id2, PySem.F.plainAttrs_tuple, sl2, ty2, h1, h2, ?_⟩
    have hA := ha.run cpos
                           pins s1 σ H1 _ I1 q1
    rw [hs] at hA ⊢
    refine Calls.callWith_builtin (by show (false || (backTo cpos (starEach es
                                                                               X.env)).any (·.1)) = false; rw [hplain] <;> rfl) (Calls.evalArgs_plain ?_)
    exact thn hA fun us s2 ⟨vs, H2, I2, r2', q2⟩ => hm2 pins s2 σ H2 (.ref a) vs _ us Q I2 rfl r2' q2
/-- t.index(x) -/
def rIndexT (K : PySem.W.Frag) : V → List V → Hp → VK → Prop := fun x xs H Q => ∃ (a : Addr) (y : V) (d : PyData) (ds : List PyData) (j : Nat) (z : PyData), x = V.ref a ∧ xs = [y] ∧ Dp K H (V.ref a) (.tuple ds) ∧ Dp K H y d ∧
  SeqAt.shaped (.tuple ds) = true ∧ SeqAt.shaped d = true ∧ ds[j]? = some z ∧ PyData.eqv z d = true ∧ (∀ (m : Nat) (z' : PyData), m < j → ds[m]? = some z' → PyData.eqv z' d = false) ∧ Q (.int (j : Nat)) H
theorem mt_indexT (hu : X.A.units + 65 < cLine) : MtR X "tuple.index" (rIndexT X.K) := by
  intro pins s σ H x
                     xs v us Q I rx rxs h
  obtain ⟨a, y, d, ds, j, z, rfl, rfl,
                                       hl, hy, sl, sd, hz, hzj, hno, q⟩ := h
  cases rx
  cases rxs with
  | cons ry rt =>
    rename_i uy ut
    cases rt
    obtain ⟨bs, r1⟩ :=
                       Dp.reads I d y uy hy ry
    have hxs : PyData.canLayAll0 ds =
                                      true := SeqAt.canLay_of_shaped sl
    have hroom : X.A.units + 1 + min (PyData.depthAll
                                                      ds) d.depth < cLine := room_in_shaped sd hu
    cases hl with
    | tup hs ha =>
      obtain ⟨its, rv, ⟨⟨cls, dd, data, sls⟩, ho, hc, n, hdt⟩, hlen⟩ := I.tuple hs
      simp only at hc hdt
      subst hc hdt
      obtain ⟨as, h4⟩ :=
                         Dp.readsAll I ds _ its ha rv
      have hn : its.length = ds.length :=
                                          SeqAt.ReadsAll.length ds its as h4
      have hmap : its.map (SeqAt.readOf s.heap)
                                                = ds := SeqAt.readsAll_map ds its as hxs h4
      obtain ⟨hjd, _⟩ :=
                         List.getElem?_eq_some_iff.mp hz
      have hjl : j <
                     its.length := by omega
      have hj : j < its.toArray.size
                                     := by simpa using hjl
      have at_ : ∀ (m : Nat) (hm : m < its.toArray.size) (z' : PyData),
                                                                        ds[m]? = some z' → SeqAt.readOf s.heap its.toArray[m] = z' := by
        intro m hm z' hz'
        have hml : m < its.length
                                  := by simpa using hm
        rw [← hmap, List.getElem?_map,
                                       List.getElem?_eq_getElem hml] at hz'
        have e1 : SeqAt.readOf s.heap its[m] = z' := Option.some.inj
                                                                     (show some (SeqAt.readOf s.heap its[m]) = some z' from hz')
        simpa using e1
      refine call_meets PySem.F.slot_tuple_index ⟨_, ho, rfl⟩ PySem.F.entry_tuple_index (PySem.F.args_tuple_index_2 _ _)
        (TI.tuple_indexAt a its.toArray n dd sls uy (fun u => PyData.eqv (SeqAt.readOf s.heap u) d) j hj ?_ ?_) ⟨ho, SeqAt.items_eqAt (vs := its.toArray) (show ReadsAll s.heap its.toArray.toList ds as from h4) r1 hxs (SeqAt.canLay_of_shaped sd) hroom, ?_⟩
      · show PyData.eqv (SeqAt.readOf
                                      s.heap its.toArray[j]) d = true
        rw [at_ j hj z hz]
        exact hzj
      · intro m hm hmj
        have hmd : m <
                       ds.length := by omega
        have hz' : ds[m]? = some ds[m]
                                       := List.getElem?_eq_getElem hmd
        show PyData.eqv (SeqAt.readOf
                                      s.heap its.toArray[m]) d = false
        rw [at_ m hm _ hz']
        exact hno m _ hmj hz'
      · exact ⟨.int (j : Nat),
                               H, I.tok _, ⟨_, rfl⟩, q⟩
end
/-- the receiver's kind -/
def kindK (u : U) (h : Mh) : Option Bool := match u with
  | .loc n => match h[n]? with
    | some (.lst _) => some true
    | some (.tup _) => some false
    | _ => none
  | .dat (.list _) => some true
  | .dat (.tuple _) => some false
  | _ => none
def mMtK (f1 f2 : Fm) (o : Me) (a : Ml) : Me := fun s h => (o s h).bind fun x h1 => match kindK x h1 with
  | some true => (a s h1).bind fun xs h2 => f1 x xs h2
  | some false => (a s h1).bind fun xs h2 => f2 x xs h2
  | none => .stuck
def fIndexT : Fm := fun x us h => match us with
  | [u] => match rd h deep u with
    | some d => match rd h deep x with
      | some (.tuple ds) => if SeqAt.shaped (.tuple ds) && SeqAt.shaped d then (match firstAt d ds 0 with
        | some j => .ok (.int (j : Nat)) h
        | none => .stuck) else .stuck
      | _ => .stuck
    | none => .stuck
  | _ => .stuck
section
variable {X : Cx} {g : Gc} {W : WX} {A : Me} {L : Ml} {o e : Expr} {es : List Expr} {apos cpos : Pos}
theorem kind_ok {ρ : Wd} {h : Mh} {H : Hp} {u : U} {v : V} {k : Bool} (cs : Cs g ρ h H) (r : Rl g ρ u v) (e : kindK u h = some k) : ∃ a, v = .ref a ∧ (k = true → ∃ xs, SqL g.K H a xs) ∧ (k = false → ExT g.K H a) := by
  unfold kindK at e
  split at e
  · split at e
    · rename_i n xs en
      cases e
      obtain ⟨a, vs, rfl, ea, rv, ha⟩ := cs.lst en r
      exact ⟨a, rfl, fun _ => ⟨vs, SqL.of ha⟩, fun z => (nomatch z)⟩
    · rename_i n xs en
      cases e
      obtain ⟨a, vs, o, rfl, ea, rv, hd, ha⟩ := cs.tup en r
      exact ⟨a, rfl, fun z => (nomatch z), fun _ => ⟨vs, .inl ⟨o, ha, hd⟩⟩⟩
    · cases e
  · cases e
    cases r.2 with
    | lst hs ha => exact ⟨_, rfl, fun _ => ⟨_, SqL.of (cs.fzH _ _ hs)⟩, fun z => (nomatch z)⟩
  · cases e
    cases r.2 with
    | tup hs ha => exact ⟨_, rfl, fun z => (nomatch z), fun _ => ⟨_, DT.hle hs cs.fzH⟩⟩
  · cases e
theorem s_indexT {K : PySem.W.Frag} (hK : K = g.K := by assumption) : SMt g K "tuple" fIndexT (rIndexT K) := fun E ρ x xs vx vs h H Q rx rs cs p => by
  subst hK
  unfold fIndexT at p
  split at p
  · rename_i u
    obtain ⟨v, rfl, r1⟩ := one_of rs
    split at p
    · rename_i d ed
      split at p
      · rename_i ds el
        split at p
        · rename_i es
          rw [Bool.and_eq_true] at es
          split at p
          · rename_i j ej
            obtain ⟨_, z, hz, hzd, hno⟩ := firstAt_ok ej
            have dl := rd_dp cs _ _ _ _ rx el
            cases dl with
            | tup hs ha => exact ⟨_, v, d, ds, j, z, rfl, rfl, .tup hs ha, rd_dp cs _ _ _ _ r1 ed, es.1, es.2, hz, hzd, hno, Post.here (rel := Rl g) p cs rfl⟩
          · exact p.elim
        · exact p.elim
      · exact p.elim
    · exact p.elim
  · exact p.elim
theorem e_indexD (hK : X.K = g.K := by assumption) (hu : X.A.units + 65 < cLine) (ho : PE X o (T g W A)) (ha : PA X (e :: es) (TL g W L))
    (hbase : attributeBase o "index" X.env (eval o X.env) = eval o X.env := by rfl) (hfew : ((backTo cpos (starEach (e :: es) X.env)).all (fun x => !x.1) && (backToKw cpos (keywordEach [] X.env)).all (fun x => x.1.isSome) && decide ((e :: es).length + ([] : List Keyword).length + (if ([] : List Keyword).isEmpty then 0 else 1) < 30)) = true := by rfl)
    (hline : (apos.endLine == cpos.line) = true := by rfl) (hss : starEach (e :: es) X.env = (false, eval e X.env) :: starEach es X.env := by rfl) (hplain : (backTo cpos (starEach es X.env)).any (·.1) = false := by rfl) :
    PE X (.Call (.Attribute o "index" apos) (e :: es) [] cpos) (T g W (mMtK fIndex fIndexT A L)) := by
  refine PE.im (pe_bmK PySem.F.slot_list_index PySem.F.type_list_index (mt_indexD hu) PySem.F.slot_tuple_index PySem.F.type_tuple_index (mt_indexT hu) ho ha hbase hfew hline hss hplain) fun σ H Q q => At.seq (rel := Rl g) q fun ρ1 x s h1 v H1 hs1 c1 r1 p1 => ?_
  cases ek : kindK x h1 with
  | none => rw [ek] at p1; exact p1.elim
  | some k =>
    rw [ek] at p1
    obtain ⟨ad, rfl, k1, k2⟩ := kind_ok c1 r1 ek
    refine ⟨ad, rfl, ?_⟩
    cases k with
    | true =>
      refine .inl ⟨by rw [hK]; exact k1 rfl, ρ1, s, h1, hs1, c1, (Post.cut (rel := Rls g) p1).imp fun ws H2 ⟨ρ2, us, h2, e2, c2, r2, p2⟩ => ?_⟩
      exact s_index hK _ ρ2 x us _ ws h2 H2 Q (Rl.mono e2 r1) r2 c2 p2
    | false =>
      refine .inr ⟨by rw [hK]; exact k2 rfl, ρ1, s, h1, hs1, c1, (Post.cut (rel := Rls g) p1).imp fun ws H2 ⟨ρ2, us, h2, e2, c2, r2, p2⟩ => ?_⟩
      exact s_indexT hK _ ρ2 x us _ ws h2 H2 Q (Rl.mono e2 r1) r2 c2 p2
end
end Vm

set_option Elab.async false
set_option linter.all false
set_option maxRecDepth 100000
set_option maxHeartbeats 4100000
namespace Vm
open L2 PyProof.Rows PySem PySem.Spec

/-! ### a list that is not changed from here on -/
theorem Paired.setL {α β : Type} {F : α → β → Prop} {x : α} {y : β} (q : F x y) : ∀ {xs : List α} {ys : List β} {i : Nat}, Paired F xs ys → ys[i]? = some y → Paired F (xs.set i x) ys
  | _, _, _, .nil, _ => .nil
  | _, _, 0, .cons _ t, e => by
    rw [List.getElem?_cons_zero] at e
    cases e
    exact .cons q t
  | _, _, i + 1, .cons r t, e => .cons r (Paired.setL q t (by rw [List.getElem?_cons_succ] at e; exact e))
section
variable {g : Gc} {ρ ρ' : Wd} {h h' : Mh} {H H' : Hp}
theorem Cs.fixL (c : Cs g ρ h H) {n : Nat} {a : Addr} {xs : List U} {vs : List V} (en : h[n]? = some (.lst xs)) (ea : ρ.as[n]? = some a) (eH : H a = some (.lst vs)) :
    Wd.Le ρ (ρ.frz a (.lst vs)) ∧ Cs g (ρ.frz a (.lst vs)) (h.set n .ded) H := by
  obtain ⟨z1, z2⟩ := c.live en ea
  have le : Wd.Le ρ (ρ.frz a (.lst vs)) := ⟨List.prefix_refl _, fun b u q => (by show upd ρ.fz a _ b = some u; rw [upd_ne (fun z => by rw [z, z1] at q; cases q)]; exact q), rfl, fun b h1 h2 => (by
    show upd ρ.fz a _ b = none
    rw [upd_ne (fun z => by rw [z, z2] at h2; exact h2 rfl)]
    exact h1)⟩
  refine ⟨le, by rw [List.length_set]; exact c.len, fun n' o' b e1 e2 => ?_, c.inj, c.scr, fun a' dd fs ex => ?_, fun b u q => ?_, c.lkH, fun n' o' b e1 e2 => ?_, fun b o' ys q => ?_⟩
  · by_cases hn : n = n'
    · subst hn
      have hl := (List.getElem?_eq_some_iff.mp e1).1
      rw [List.length_set] at hl
      rw [List.getElem?_set_self hl] at e1
      cases e1
      have e2 : ρ.as[n]? = some b := e2
      rw [ea] at e2
      cases e2
      exact ⟨_, eH⟩
    · rw [List.getElem?_set_ne hn] at e1
      exact Om.grow le.lx (c.at_ n' o' b e1 e2) fun _ _ q => q
  · obtain ⟨gs, r, q⟩ := c.xn a' dd fs ex
    exact ⟨gs, Rf.mono le r, q⟩
  · have q : upd ρ.fz a (.lst vs) b = some u := q
    by_cases z : b = a
    · subst z
      rw [upd_same] at q
      cases q
      exact eH
    · rw [upd_ne z] at q
      exact c.fzH b u q
  · by_cases hn : n = n'
    · subst hn
      have hl := (List.getElem?_eq_some_iff.mp e1).1
      rw [List.length_set] at hl
      rw [List.getElem?_set_self hl] at e1
      cases e1
      have e2 : ρ.as[n]? = some b := e2
      rw [ea] at e2
      cases e2
      exact ⟨z2, fun hd => absurd rfl hd⟩
    · rw [List.getElem?_set_ne hn] at e1
      have e2 : ρ.as[n']? = some b := e2
      obtain ⟨q1, q2⟩ := c.apt n' o' b e1 e2
      have hb : b ≠ a
                      := fun z => by
        subst z
        obtain ⟨h1, q1⟩ := List.getElem?_eq_some_iff.mp ea
        obtain ⟨h2, q2⟩ := List.getElem?_eq_some_iff.mp e2
        exact hn ((List.getElem_inj c.inj).mp (q1.trans q2.symm))
      refine ⟨q1, fun hd => ?_⟩
      show upd ρ.fz a _ b = none
      rw [upd_ne hb]
      exact q2 hd
  · have q : upd ρ.fz a (.lst vs) b = some (.frz o' (.lst ys)) := q
    by_cases z : b = a
    · subst z
      rw [upd_same] at q
      cases q
    · rw [upd_ne z] at q
      exact c.nfl b o' ys q
end
def sFrz (i : Nat) : Ms := fun s h => match s[i]? with
  | some (some (.loc n)) => match h[n]? with
    | some (.lst xs) => match pdsOf xs with
      | some ds => .nx (s.set i (some (.dat (.list ds)))) (h.set n .ded)
      | none => .stuck
    | _ => .stuck
  | _ => .stuck
section
variable {X : Cx} {g : Gc} {W : WX} {A B Cc : Me} {a b c e : Expr} {pos : Pos} {L : Ml} {M : Ms}
theorem s_fix {i : Nat} {ss : List Stmt} (hb : PSs X ss (TSm g W M)) : PSs X ss (TSm g W (sSeq (sFrz i) M)) := by
  refine PSs.im hb fun D σ H ⟨ρ, s, h, hs, cs, p⟩ => ?_
  unfold sSeq sFrz at p
  cases e1 : s[i]? with
  | none => rw [e1] at p; exact p.elim
  | some o =>
  rw [e1] at p
  cases o with
  | none => exact p.elim
  | some u =>
  cases u with
  | loc n =>
    simp only at p
    cases e2 : h[n]? with
    | none => rw [e2] at p; exact p.elim
    | some ob =>
      rw [e2] at p
      cases ob with
      | lst xs =>
        simp only at p
        cases e3 : pdsOf xs with
        | none => rw [e3] at p; exact p.elim
        | some ds =>
          rw [e3] at p
          simp only at p
          obtain ⟨ov, ev, rv⟩ := Paired.get hs e1
          cases ov with
          | none => exact rv.elim
          | some v =>
            have rv : Rl g ρ (.loc n) v := rv
            obtain ⟨ad, vs, rfl, ea, rl, eH⟩ := cs.lst e2 rv
            obtain ⟨le, cc⟩ := cs.fixL e2 ea eH
            have q : Rl g (ρ.frz ad (.lst vs)) (.dat (.list ds)) (.ref ad) := ⟨rfl, .lst upd_same (DqAll.hle le.fz _ _ (pds_ok rl e3))⟩
            exact ⟨_, _, _, Paired.setL (F := Rol g (ρ.frz ad (.lst vs))) (x := some (.dat (.list ds))) (y := some (.ref ad)) q (Rsl.mono le hs) ev, cc, PostS.mono le p⟩
      | _ => exact p.elim
  | _ => exact p.elim
/-- a list of its own that + makes -/
def fAddM : F2 := fun x y h => match seqOf x h, seqOf y h with
  | some (true, xs), some (true, ys) => if okLen (xs.length + ys.length) then newO (.lst (xs ++ ys)) h else .stuck
  | _, _ => .stuck
theorem s_addM {K : PySem.W.Frag} : S2 g fAddM (rAddAll K) := fun E ρ x y vx vy h H Q rx ry cs p => by
  unfold fAddM at p
  split at p
  · rename_i xs ys e1 e2
    obtain ⟨a, vs, rfl, rv, ha, _⟩ := seq_ok cs rx e1
    obtain ⟨b, ws, rfl, rw', hb, _⟩ := seq_ok cs ry e2
    cases eo : okLen (xs.length + ys.length) with
    | true =>
      rw [eo, if_pos rfl] at p
      exact .inr (.inr (.inl ⟨a, b, vs, ws, rfl, rfl, ha rfl, hb rfl, by rw [← Paired.length rv, ← Paired.length rw']; exact okLen_line eo, fun q hq => Post.made p cs hq ⟨_, Rls.mono (pre_snoc _ _) (Paired.app rv rw'), upd_same⟩⟩))
    | false => rw [eo, if_neg Bool.false_ne_true] at p; exact p.elim
  · exact p.elim
/-- a slice of a list that is to be changed -/
def fSlM (x : U) (lo hi : Option Int) (h : Mh) : R U := match seqOf x h with
  | some (true, xs) => newO (.lst (cutU xs lo hi)) h
  | _ => .stuck
end
/-! ### except C, C a class under the first one -/
def Exm (K : PySem.W.Frag) (cl : Nat → Addr) (n d : Nat) : Prop := ∀ c, c < n → PySem.W.exmOne K (.ref (cl c)) (.ref (cl d)) = some (c == d || d == 0)
def exmB (K : PySem.W.Frag) (cl : Nat → Addr) (n d : Nat) : Bool := allC n fun c => decide (PySem.W.exmOne K (.ref (cl c)) (.ref (cl d)) = some (c == d || d == 0))
theorem exmB_ok {K : PySem.W.Frag} {cl : Nat → Addr} {n d : Nat} (h : exmB K cl n d = true) : Exm K cl n d := fun c hc => of_decide_eq_true (allC_ok h c hc)
end Vm

set_option Elab.async false
set_option linter.all false
set_option maxRecDepth 100000
set_option maxHeartbeats 4100000
namespace Vm
open L2 PyProof.Rows PySem PySem.Spec

/-! ### a tuple, once over -/
theorem tuple_mul1W (l : Addr) (items : Array Value) (n : Nat) (dd : Option Addr) (sl : Array (Option Value)) (u : Tok) :
    Meets (Builtin.«tuple.__mul__» ⟨[.ref l, .int 1 u], []⟩) (fun _ R s => s.heap.get? l = some { cls := .type "tuple", dict := dd, data := .seq items n, slots := sl } ∧ R (.ok (.ret (Value.ref l))) s) :=
  .of_wp fun prog
                  w A R s h => by
    obtain ⟨hp, g,
                   d, tk, os⟩ := s
    obtain ⟨hl, h⟩ := h
    wp_walk using
                  wpAny_loadPart' hl
    repeat (first
      | (refine wpAny_ite_false (by decide) ?_; wp_walk using wpAny_loadPart' hl)
      | (refine wpAny_ite_true (by simp) ?_; wp_walk using wpAny_loadPart' hl))
    exact ⟨_, rfl, h⟩
def rRep1 (K : PySem.W.Frag) : R2 := fun x y H Q => ∃ l xs, x = .ref l ∧ y = .int 1 ∧ SqT K H l xs ∧ Q (.ref l) H
section
variable {X : Cx} {g : Gc}
theorem op_rep1 : OpR X (binaryOp .Mult) (rRep1 X.K) := by
  intro pins s σ H x
                     y v u Q I rx ry h
  obtain ⟨l, xs, rfl, rfl, hT, q⟩ := h
  cases rx
  obtain ⟨t, rfl⟩ := ry
  obtain ⟨its, r, ⟨⟨cls, dd, data, sl⟩,
                                        ho, hc, n, hd⟩, hs⟩ := I.tuple hT
  simp only at hc hd
  subst hc hd
  refine wpAny_binaryOp_repeat_ref (T := "tuple") (U := "int") (by decide) ⟨_, ho, rfl⟩ (fun s' => typeIs_int s' 1 t) noFill_tuple_mul F.fills_int_mul F.slot_int_rmul repeat_tuple F.slot_int_index.lookup
    (call_meets F.slot_int_rmul (typeIs_int s 1 t) F.entry_int_rmul (F.args_int_rmul_2 _ _) (int_rmul_tuple 1 t l its.toArray n dd sl)
      ⟨ho, rfl, ⟨_, ho, rfl⟩, call_meets F.slot_tuple_mul ⟨_, ho, rfl⟩ F.entry_tuple_mul (F.args_tuple_mul_2 _ _) (tuple_mul1W l its.toArray n dd sl t) ⟨ho, ?_⟩⟩)
  exact ⟨.ref l, _, I.tok _, rfl, q⟩
abbrev rMulE (K : PySem.W.Frag) : R2 := fun x y H Q => rMulD K x y H Q ∨ rRep1 K x y H Q
theorem o_mulE : OpR X (binaryOp .Mult) (rMulE X.K) := OpR.or o_mulD op_rep1
def fMulE : F2 := fun x y h => match y with
  | .int k => if k = 1 then (match seqOf x h with
    | some (false, _) => .ok x h
    | _ => fMulD x y h) else fMulD x y h
  | _ => fMulD x y h
theorem s_mulE {K : PySem.W.Frag} (hK : K = g.K := by assumption) : S2 g fMulE (rMulE K) := fun E ρ x y vx vy h H Q rx ry cs p => by
  unfold fMulE at p
  split at p
  · rename_i k
    by_cases hk : k = 1
    · rw [if_pos hk] at p
      split at p
      · rename_i xs es
        subst hk hK
        obtain ⟨a, vs, rfl, rv, _, ha⟩ := seq_ok cs rx es
        exact .inr ⟨a, vs, rfl, ry, ha rfl, Post.here (rel := Rl g) p cs rx⟩
      · exact .inl (s_mulD hK E ρ x _ vx vy h H Q rx ry cs p)
    · rw [if_neg hk] at p
      exact .inl (s_mulD hK E ρ x _ vx vy h H Q rx ry cs p)
  · exact .inl (s_mulD hK E ρ x y vx vy h H Q rx ry cs p)
end
end Vm

set_option Elab.async false
set_option linter.all false
set_option maxRecDepth 100000
set_option maxHeartbeats 4100000
namespace Vm
open L2 PyProof.Rows PySem PySem.Spec
/-! ### mirrors, unfolded -/
end Vm

set_option Elab.async false
set_option linter.all false
set_option maxRecDepth 100000
set_option maxHeartbeats 4100000
namespace Vm
open L2 PyProof.Rows PySem PySem.Spec
/-! ### data that goes in and out -/
abbrev eS (l : List Str) : List PyData := l.map PyData.str
@[simp] theorem pd_of : ∀ d : PyData, pdOf (ofPd d) = some d
  | .none => rfl
  | .bool _ => rfl
  | .int _ => rfl
  | .str _ => rfl
  | .list _ => rfl
  | .tuple _ => rfl
  | .dict _ => rfl
@[simp] theorem pds_of : ∀ ds : List PyData, pdsOf (ds.map ofPd) = some ds
  | [] => rfl
  | d :: ds => by rw [List.map_cons, pdsOf, pd_of, pds_of ds]
@[simp] theorem pu_of (d : PyData) : pureU (ofPd d) = true := by cases d <;> rfl
@[simp] theorem pus_of (ds : List PyData) : (ds.map ofPd).all pureU = true := by
  rw [List.all_map, List.all_eq_true]
  exact fun d _ => pu_of d
@[simp] theorem of_str (l : List Str) : (eS l).map ofPd = l.map U.str := by rw [eS, List.map_map]; rfl
@[simp] theorem pds_str (l : List Str) : pdsOf (l.map U.str) = some (eS l) := by rw [← of_str, pds_of]
theorem newT_of (ds : List PyData) (h : Mh) : newT (ds.map ofPd) h = .ok (.dat (.tuple ds)) h := by rw [newT, pds_of]
theorem newL_of (ds : List PyData) (h : Mh) : newL (ds.map ofPd) h = .ok (.dat (.list ds)) h := by rw [newL, pds_of]
theorem newL_str (l : List Str) (h : Mh) : newL (l.map U.str) h = .ok (.dat (.list (eS l))) h := by rw [newL, pds_str]
theorem newT_str (l : List Str) (h : Mh) : newT (l.map U.str) h = .ok (.dat (.tuple (eS l))) h := by rw [newT, pds_str]
theorem newL_at {us : List U} {ds : List PyData} {h : Mh} (e : pdsOf us = some ds) : newL us h = .ok (.dat (.list ds)) h := by rw [newL, e]
theorem newT_at {us : List U} {ds : List PyData} {h : Mh} (e : pdsOf us = some ds) : newT us h = .ok (.dat (.tuple ds)) h := by rw [newT, e]
theorem vSeq_list (ds : List PyData) : vSeq (.dat (.list ds)) = some (ds.map ofPd) := rfl
theorem vSeq_tuple (ds : List PyData) : vSeq (.dat (.tuple ds)) = some (ds.map ofPd) := rfl
/-- a comprehension whose parts leave the heap -/
theorem loopCF_pure {t : Gt} {q : Mb} {e : Me} {s : Sl} {h : Mh} {qb : U → Bool} {fe : U → U} : ∀ {us : List U}, (∀ x ∈ us, ∃ s1, t x s h = some s1 ∧ q s1 h = .ok (qb x) h ∧ (qb x = true → e s1 h = .ok (fe x) h)) →
    loopCF t q e s us h = .ok ((us.filter qb).map fe) h
  | [], _ => rfl
  | x :: us, k => by
    obtain ⟨s1, e1, e2, e3⟩ := k x (by simp [slotsOf, sSeq, sIf, sAsg, sRet, sRetN, sE, sPut, Vm.putIn, bV, bNot, bAnd, bOr, m2, m1, mV, mC, mBt, mCall, lC, lN, R.bind, R.bindS, fIxD, seqOf, fGt, fLt, fLe, fGe, fSub, fMod, fDiv, fPow, fI, asB, fInt, gtN, pureO, pureU, outM, outU, fMulE, fMulD, fAddD, sPass, fAbs, fMax2, fMin2, mIf, mL, newO, fLenD, P0.at, pdOf])
    have ih := loopCF_pure (us := us) fun y hy => k y (by simp [slotsOf, sSeq, sIf, sAsg, sRet, sRetN, sE, sPut, Vm.putIn, bV, bNot, bAnd, bOr, m2, m1, mV, mC, mBt, mCall, lC, lN, R.bind, R.bindS, fIxD, seqOf, fGt, fLt, fLe, fGe, fSub, fMod, fDiv, fPow, fI, asB, fInt, gtN, pureO, pureU, outM, outU, fMulE, fMulD, fAddD, sPass, fAbs, fMax2, fMin2, mIf, mL, newO, fLenD, P0.at, pdOf, hy])
    unfold loopCF
    rw [e1]
    simp only
    rw [e2]
    cases hq : qb x with
    | true =>
      simp only
      rw [e3 hq]
      simp only
      rw [ih]
      simp [slotsOf, sSeq, sIf, sAsg, sRet, sRetN, sE, sPut, Vm.putIn, bV, bNot, bAnd, bOr, m2, m1, mV, mC, mBt, mCall, lC, lN, R.bind, R.bindS, fIxD, seqOf, fGt, fLt, fLe, fGe, fSub, fMod, fDiv, fPow, fI, asB, fInt, gtN, pureO, pureU, outM, outU, fMulE, fMulD, fAddD, sPass, fAbs, fMax2, fMin2, mIf, mL, newO, fLenD, P0.at, pdOf, List.filter_cons, hq]
    | false =>
      simp only
      rw [ih]
      simp [slotsOf, sSeq, sIf, sAsg, sRet, sRetN, sE, sPut, Vm.putIn, bV, bNot, bAnd, bOr, m2, m1, mV, mC, mBt, mCall, lC, lN, R.bind, R.bindS, fIxD, seqOf, fGt, fLt, fLe, fGe, fSub, fMod, fDiv, fPow, fI, asB, fInt, gtN, pureO, pureU, outM, outU, fMulE, fMulD, fAddD, sPass, fAbs, fMax2, fMin2, mIf, mL, newO, fLenD, P0.at, pdOf, List.filter_cons, hq]
/-- a loop by an invariant of what is left -/
theorem loopF_inv {t : Gt} {b : Ms} {I : List U → Sl → Mh → Prop} (step : ∀ x us s h, I (x :: us) s h → ∃ s1 s2 h2, t x s h = some s1 ∧ (b s1 h = .nx s2 h2 ∨ b s1 h = .ct s2 h2) ∧ I us s2 h2) : ∀ {us : List U} {s : Sl} {h : Mh}, I us s h → ∃ s' h', loopF t b us s h = .nx s' h' ∧ I [] s' h'
  | [], s, h, i => ⟨s, h, rfl, i⟩
  | x :: us, s, h, i => by
    obtain ⟨s1, s2, h2, e1, e2, i2⟩ := step x us s h i
    obtain ⟨s', h', e3, i3⟩ := loopF_inv step i2
    refine ⟨s', h', ?_, i3⟩
    unfold loopF
    rw [e1]
    simp only
    rcases e2 with e2 | e2 <;> rw [e2] <;> exact e3
end Vm

set_option Elab.async false
set_option linter.all false
set_option maxRecDepth 100000
set_option maxHeartbeats 4100000
namespace Vm
open L2 PyProof.Rows PySem PySem.Spec
/-! ### reading data, in, ==, all -/
@[simp] theorem rd_of (h : Mh) : ∀ (k : Nat) (d : PyData), rd h k (ofPd d) = some d
  | 0, .none => rfl
  | 0, .bool _ => rfl
  | 0, .int _ => rfl
  | 0, .str _ => rfl
  | 0, .list _ => rfl
  | 0, .tuple _ => rfl
  | 0, .dict _ => rfl
  | _ + 1, .none => rfl
  | _ + 1, .bool _ => rfl
  | _ + 1, .int _ => rfl
  | _ + 1, .str _ => rfl
  | _ + 1, .list _ => rfl
  | _ + 1, .tuple _ => rfl
  | _ + 1, .dict _ => rfl
theorem rdL_of (h : Mh) (k : Nat) : ∀ ds : List PyData, rdL (rd h k) (ds.map ofPd) = some ds
  | [] => rfl
  | d :: ds => by rw [List.map_cons, rdL, rd_of, rdL_of h k ds]
theorem rd_dat (h : Mh) (k : Nat) (d : PyData) : rd h k (.dat d) = some d := by cases k <;> rfl
theorem rd_loc {h : Mh} {n : Nat} {ds : List PyData} (e : h[n]? = some (.lst (ds.map ofPd))) : rd h deep (.loc n) = some (.list ds) := by
  show (match h[n]? with
    | some (.lst xs) => match rdL (rd h 39) xs with
      | some ds => some (PyData.list ds)
      | none => none
    | some (.tup xs) => match rdL (rd h 39) xs with
      | some ds => some (PyData.tuple ds)
      | none => none
    | _ => none) = some (PyData.list ds)
  rw [e]
  simp only
  rw [rdL_of]
/-- plain things: no list within, no strange sign -/
def Lf (d : PyData) : Prop := d.canLay0 = true ∧ d.depth = 0
theorem Lf.all : ∀ {ds : List PyData}, (∀ d ∈ ds, Lf d) → PyData.canLayAll0 ds = true ∧ PyData.depthAll ds = 0
  | [], _ => ⟨rfl, rfl⟩
  | d :: ds, k => by
    obtain ⟨h1, h2⟩ := k d (by simp [slotsOf, sSeq, sIf, sAsg, sRet, sRetN, sE, sPut, Vm.putIn, bV, bNot, bAnd, bOr, m2, m1, mV, mC, mBt, mCall, lC, lN, R.bind, R.bindS, fIxD, seqOf, fGt, fLt, fLe, fGe, fSub, fMod, fDiv, fPow, fI, asB, fInt, gtN, pureO, pureU, outM, outU, fMulE, fMulD, fAddD, sPass, fAbs, fMax2, fMin2, mIf, mL, newO, fLenD, P0.at, pdOf])
    obtain ⟨h3, h4⟩ := Lf.all (ds := ds) fun e he => k e (List.mem_cons_of_mem _ he)
    simp [slotsOf, sSeq, sIf, sAsg, sRet, sRetN, sE, sPut, Vm.putIn, bV, bNot, bAnd, bOr, m2, m1, mV, mC, mBt, mCall, lC, lN, R.bind, R.bindS, fIxD, seqOf, fGt, fLt, fLe, fGe, fSub, fMod, fDiv, fPow, fI, asB, fInt, gtN, pureO, pureU, outM, outU, fMulE, fMulD, fAddD, sPass, fAbs, fMax2, fMin2, mIf, mL, newO, fLenD, P0.at, pdOf, PyData.canLayAll0, PyData.depthAll, h1, h2, h3, h4]
theorem Lf.shaped {d : PyData} (k : Lf d) : SeqAt.shaped d = true := by simp [slotsOf, sSeq, sIf, sAsg, sRet, sRetN, sE, sPut, Vm.putIn, bV, bNot, bAnd, bOr, m2, m1, mV, mC, mBt, mCall, lC, lN, R.bind, R.bindS, fIxD, seqOf, fGt, fLt, fLe, fGe, fSub, fMod, fDiv, fPow, fI, asB, fInt, gtN, pureO, pureU, outM, outU, fMulE, fMulD, fAddD, sPass, fAbs, fMax2, fMin2, mIf, mL, newO, fLenD, P0.at, pdOf, SeqAt.shaped, k.1, k.2]
theorem Lf.list {ds : List PyData} (k : ∀ d ∈ ds, Lf d) : SeqAt.shaped (.list ds) = true := by
  obtain ⟨h1, h2⟩ := Lf.all k
  simp [slotsOf, sSeq, sIf, sAsg, sRet, sRetN, sE, sPut, Vm.putIn, bV, bNot, bAnd, bOr, m2, m1, mV, mC, mBt, mCall, lC, lN, R.bind, R.bindS, fIxD, seqOf, fGt, fLt, fLe, fGe, fSub, fMod, fDiv, fPow, fI, asB, fInt, gtN, pureO, pureU, outM, outU, fMulE, fMulD, fAddD, sPass, fAbs, fMax2, fMin2, mIf, mL, newO, fLenD, P0.at, pdOf, SeqAt.shaped, PyData.canLay0, PyData.depth, h1, h2]
theorem Lf.tuple {ds : List PyData} (k : ∀ d ∈ ds, Lf d) : SeqAt.shaped (.tuple ds) = true := by
  obtain ⟨h1, h2⟩ := Lf.all k
  simp [slotsOf, sSeq, sIf, sAsg, sRet, sRetN, sE, sPut, Vm.putIn, bV, bNot, bAnd, bOr, m2, m1, mV, mC, mBt, mCall, lC, lN, R.bind, R.bindS, fIxD, seqOf, fGt, fLt, fLe, fGe, fSub, fMod, fDiv, fPow, fI, asB, fInt, gtN, pureO, pureU, outM, outU, fMulE, fMulD, fAddD, sPass, fAbs, fMax2, fMin2, mIf, mL, newO, fLenD, P0.at, pdOf, SeqAt.shaped, PyData.canLay0, PyData.depth, h1, h2]
theorem Lf.str {x : Str} (h : PyData.strOk x = true) : Lf (.str x) := ⟨h, rfl⟩
theorem Lf.int (i : Int) : Lf (.int i) := ⟨rfl, rfl⟩
/-- a kind of things whose == is = -/
structure Emb {α : Type} [DecidableEq α] (emb : α → PyData) (ok : α → Prop) : Prop where
  eq : ∀ x y, PyData.eqv (emb x) (emb y) = decide (x = y)
  lf : ∀ x, ok x → Lf (emb x)
theorem eqv_str (x y : Str) : PyData.eqv (.str x) (.str y) = decide (x = y) := by
  unfold PyData.eqv
  by_cases h : x = y
  · subst h; simp [slotsOf, sSeq, sIf, sAsg, sRet, sRetN, sE, sPut, Vm.putIn, bV, bNot, bAnd, bOr, m2, m1, mV, mC, mBt, mCall, lC, lN, R.bind, R.bindS, fIxD, seqOf, fGt, fLt, fLe, fGe, fSub, fMod, fDiv, fPow, fI, asB, fInt, gtN, pureO, pureU, outM, outU, fMulE, fMulD, fAddD, sPass, fAbs, fMax2, fMin2, mIf, mL, newO, fLenD, P0.at, pdOf]
  · simp [slotsOf, sSeq, sIf, sAsg, sRet, sRetN, sE, sPut, Vm.putIn, bV, bNot, bAnd, bOr, m2, m1, mV, mC, mBt, mCall, lC, lN, R.bind, R.bindS, fIxD, seqOf, fGt, fLt, fLe, fGe, fSub, fMod, fDiv, fPow, fI, asB, fInt, gtN, pureO, pureU, outM, outU, fMulE, fMulD, fAddD, sPass, fAbs, fMax2, fMin2, mIf, mL, newO, fLenD, P0.at, pdOf, h]
theorem eqv_int (x y : Int) : PyData.eqv (.int x) (.int y) = decide (x = y) := by
  unfold PyData.eqv
  by_cases h : x = y
  · subst h; simp [slotsOf, sSeq, sIf, sAsg, sRet, sRetN, sE, sPut, Vm.putIn, bV, bNot, bAnd, bOr, m2, m1, mV, mC, mBt, mCall, lC, lN, R.bind, R.bindS, fIxD, seqOf, fGt, fLt, fLe, fGe, fSub, fMod, fDiv, fPow, fI, asB, fInt, gtN, pureO, pureU, outM, outU, fMulE, fMulD, fAddD, sPass, fAbs, fMax2, fMin2, mIf, mL, newO, fLenD, P0.at, pdOf]
  · simp [slotsOf, sSeq, sIf, sAsg, sRet, sRetN, sE, sPut, Vm.putIn, bV, bNot, bAnd, bOr, m2, m1, mV, mC, mBt, mCall, lC, lN, R.bind, R.bindS, fIxD, seqOf, fGt, fLt, fLe, fGe, fSub, fMod, fDiv, fPow, fI, asB, fInt, gtN, pureO, pureU, outM, outU, fMulE, fMulD, fAddD, sPass, fAbs, fMax2, fMin2, mIf, mL, newO, fLenD, P0.at, pdOf, h]
theorem emb_str : Emb PyData.str (fun x => PyData.strOk x = true) := ⟨eqv_str, fun x h => Lf.str h⟩
theorem emb_int : Emb PyData.int (fun _ => True) := ⟨eqv_int, fun x _ => Lf.int x⟩
section
variable {α : Type} [DecidableEq α] {emb : α → PyData} {ok : α → Prop}
theorem Emb.lfs (E : Emb emb ok) {l : List α} (k : ∀ x ∈ l, ok x) : ∀ d ∈ l.map emb, Lf d := fun d hd => by
  obtain ⟨x, hx, rfl⟩ := List.mem_map.mp hd
  exact E.lf x (k x hx)
theorem Emb.any (E : Emb emb ok) (l : List α) (x : α) : (l.map emb).any (fun z => PyData.eqv z (emb x)) = decide (x ∈ l) := by
  induction l with
  | nil => simp [slotsOf, sSeq, sIf, sAsg, sRet, sRetN, sE, sPut, Vm.putIn, bV, bNot, bAnd, bOr, m2, m1, mV, mC, mBt, mCall, lC, lN, R.bind, R.bindS, fIxD, seqOf, fGt, fLt, fLe, fGe, fSub, fMod, fDiv, fPow, fI, asB, fInt, gtN, pureO, pureU, outM, outU, fMulE, fMulD, fAddD, sPass, fAbs, fMax2, fMin2, mIf, mL, newO, fLenD, P0.at, pdOf]
  | cons y l ih =>
    rw [List.map_cons, List.any_cons, ih, E.eq]
    by_cases h : y = x
    · subst h; simp [slotsOf, sSeq, sIf, sAsg, sRet, sRetN, sE, sPut, Vm.putIn, bV, bNot, bAnd, bOr, m2, m1, mV, mC, mBt, mCall, lC, lN, R.bind, R.bindS, fIxD, seqOf, fGt, fLt, fLe, fGe, fSub, fMod, fDiv, fPow, fI, asB, fInt, gtN, pureO, pureU, outM, outU, fMulE, fMulD, fAddD, sPass, fAbs, fMax2, fMin2, mIf, mL, newO, fLenD, P0.at, pdOf]
    · simp [slotsOf, sSeq, sIf, sAsg, sRet, sRetN, sE, sPut, Vm.putIn, bV, bNot, bAnd, bOr, m2, m1, mV, mC, mBt, mCall, lC, lN, R.bind, R.bindS, fIxD, seqOf, fGt, fLt, fLe, fGe, fSub, fMod, fDiv, fPow, fI, asB, fInt, gtN, pureO, pureU, outM, outU, fMulE, fMulD, fAddD, sPass, fAbs, fMax2, fMin2, mIf, mL, newO, fLenD, P0.at, pdOf, h, Ne.symm h, eq_comm]
      
theorem Emb.in_at (E : Emb emb ok) {l : List α} {x : α} {y : U} {h : Mh} (kx : ok x) (k : ∀ x ∈ l, ok x) (e : rd h deep y = some (.list (l.map emb)) ∨ rd h deep y = some (.tuple (l.map emb))) : fInB (ofPd (emb x)) y h = some (decide (x ∈ l)) := by
  unfold fInB
  rw [rd_of]
  rcases e with e | e
  · rw [e]
    simp only
    rw [(E.lf x kx).shaped, Lf.list (E.lfs k), E.any]
    rfl
  · rw [e]
    simp only
    rw [(E.lf x kx).shaped, Lf.tuple (E.lfs k), E.any]
    rfl
end
theorem bls_of (bs : List Bool) : blsOf (bs.map U.bl) = some bs := by
  induction bs with
  | nil => rfl
  | cons b bs ih => rw [List.map_cons, blsOf, ih]
theorem fAll_bl (bs : List Bool) (h : Mh) : fAllD [.dat (.list (bs.map PyData.bool))] h = .ok (.bl (bs.all id)) h := by
  have e : (bs.map PyData.bool).map ofPd = bs.map U.bl := by rw [List.map_map]; rfl
  simp only [fAllD, seqOf, e, bls_of]
/-- all([True, ..]) by a comprehension: the answers of its parts -/
theorem newL_bl (bs : List Bool) (h : Mh) : newL (bs.map U.bl) h = .ok (.dat (.list (bs.map PyData.bool))) h := by
  have e : (bs.map PyData.bool).map ofPd = bs.map U.bl := by rw [List.map_map]; rfl
  rw [← e]
  exact newL_of _ _
theorem filter_yes {α : Type} (l : List α) : l.filter (fun _ => true) = l := List.filter_eq_self.mpr fun _ _ => rfl
/-- a comprehension without if -/
theorem mLcF_yes {m : Mw} {t : Gt} {e : Me} {vs : List Nat} {s : Sl} {h : Mh} {us : List U} {fe : U → PyData} (hm : m s h = .ok us h) (hl : us.length < lim) (k : ∀ x ∈ us, ∃ s1, t x (wipeM s vs) h = some s1 ∧ e s1 h = .ok (ofPd (fe x)) h) :
    mLcF m t bYes e vs s h = .ok (.dat (.list (us.map fe))) h := by
  have := loopCF_pure (t := t) (q := bYes) (e := e) (s := wipeM s vs) (h := h) (qb := fun _ => true) (fe := fun x => ofPd (fe x)) (us := us) fun x hx => by
    obtain ⟨s1, e1, e2⟩ := k x hx
    exact ⟨s1, e1, rfl, fun _ => e2⟩
  unfold mLcF
  rw [hm]
  simp only [R.bind]
  rw [decide_eq_true hl, if_pos rfl, this]
  simp only
  rw [filter_yes, show us.map (fun x => ofPd (fe x)) = (us.map fe).map ofPd by rw [List.map_map]; rfl]
  exact newL_of _ _
/-- with one -/
theorem mLcF_if {m : Mw} {t : Gt} {q : Mb} {e : Me} {vs : List Nat} {s : Sl} {h : Mh} {us : List U} {qb : U → Bool} {fe : U → PyData} (hm : m s h = .ok us h) (hl : us.length < lim) (k : ∀ x ∈ us, ∃ s1, t x (wipeM s vs) h = some s1 ∧ q s1 h = .ok (qb x) h ∧ (qb x = true → e s1 h = .ok (ofPd (fe x)) h)) :
    mLcF m t q e vs s h = .ok (.dat (.list ((us.filter qb).map fe))) h := by
  have := loopCF_pure (t := t) (q := q) (e := e) (s := wipeM s vs) (h := h) (qb := qb) (fe := fun x => ofPd (fe x)) (us := us) k
  unfold mLcF
  rw [hm]
  simp only [R.bind]
  rw [decide_eq_true hl, if_pos rfl, this]
  simp only
  rw [show (us.filter qb).map (fun x => ofPd (fe x)) = ((us.filter qb).map fe).map ofPd by rw [List.map_map]; rfl]
  exact newL_of _ _
/-- a def's answer by its body's -/
theorem pfn_rt {N : Nat} {m : Ms} {us : List U} {u u' : U} {h : Mh} (k : us.all pureU = true) (e : m (slotsOf N us) [] = .rt u h) (o : outU h u = some u') : pfn N m us = .ok u' := by
  unfold pfn
  rw [k, if_pos rfl, e]
  simp only [toP]
  rw [o]
theorem pfn_nx {N : Nat} {m : Ms} {us : List U} {s : Sl} {h : Mh} (k : us.all pureU = true) (e : m (slotsOf N us) [] = .nx s h) : pfn N m us = .ok .non := by
  unfold pfn
  rw [k, if_pos rfl, e]
  rfl
theorem pfn_ex {N : Nat} {m : Ms} {us : List U} {c : Nat} {f : List (Str × U)} {s : Sl} {h : Mh} (k : us.all pureU = true) (e : m (slotsOf N us) [] = .ex c f s h) (o : pureF f = true) : pfn N m us = .ex c f := by
  unfold pfn
  rw [k, if_pos rfl, e]
  simp only [toP]
  rw [o, if_pos rfl]
theorem runP_ok {p : List U → P0} {us : List U} {u : U} (e : p us = .ok u) (h : Mh) : runP p us h = .ok u h := by
  show (p us).at h = _
  rw [e]
  rfl
theorem runP_ex {p : List U → P0} {us : List U} {c : Nat} {f : List (Str × U)} (e : p us = .ex c f) (h : Mh) : runP p us h = .ex c f h := by
  show (p us).at h = _
  rw [e]
  rfl
theorem out_of (h : Mh) (d : PyData) : outU h (ofPd d) = some (ofPd d) := by cases d <;> rfl
end Vm

set_option Elab.async false
set_option linter.all false
set_option maxRecDepth 100000
set_option maxHeartbeats 4100000
namespace Vm
open L2 PyProof.Rows PySem PySem.Spec
/-! ### how long a repr is -/
theorem from_len (c : Nat) : ∀ (ts : List Str) (k : Nat) (acc : Str), (∀ t ∈ ts, t.length ≤ c) → (textFrom k acc ts).length ≤ acc.length + ts.length * (c + 2)
  | [], k, acc, _ => by
    show acc.length ≤ _
    omega
  | t :: r, k, acc, h => by
    have ih := from_len c r (k + 1) (acc ++ (if k > 0 then ", " else "" : String) ++ t) fun x hx => h x (List.mem_cons_of_mem _ hx)
    have e : (acc ++ (if k > 0 then ", " else "" : String) ++
                                                              t).length = acc.length + (if k > 0 then 2 else 0) + t.length := by
      rw [strLen_append,
                         strLen_append]
      split <;> rfl
    have ht := h t (by simp [slotsOf, sSeq, sIf, sAsg, sRet, sRetN, sE, sPut, Vm.putIn, bV, bNot, bAnd, bOr, m2, m1, mV, mC, mBt, mCall, lC, lN, R.bind, R.bindS, fIxD, seqOf, fGt, fLt, fLe, fGe, fSub, fMod, fDiv, fPow, fI, asB, fInt, gtN, pureO, pureU, outM, outU, fMulE, fMulD, fAddD, sPass, fAbs, fMax2, fMin2, mIf, mL, newO, fLenD, P0.at, pdOf])
    rw [e] at ih
    rw [List.length_cons, Nat.succ_mul]
    refine Nat.le_trans ih ?_
    split <;> omega
theorem listText_len {c : Nat} {ts : List Str} (h : ∀ t ∈ ts, t.length ≤ c) : (listText ts).length ≤ ts.length * (c + 2) + 2 := by
  unfold listText
  have := from_len c ts 0 "[" h
  rw [strLen_append]
  have e : (("[" : String) : Str).length = 1 := rfl
  have e2 : (("]" : String) : Str).length = 1 := rfl
  rw [e] at this
  rw [e2]
  omega
theorem join_len {c : Nat} : ∀ {ts : List Str}, (∀ t ∈ ts, t.length ≤ c) → (Str.join ", " ts).length ≤ ts.length * (c + 2)
  | [], _ => Nat.zero_le _
  | [x], h => by
    have := h x (by simp [slotsOf, sSeq, sIf, sAsg, sRet, sRetN, sE, sPut, Vm.putIn, bV, bNot, bAnd, bOr, m2, m1, mV, mC, mBt, mCall, lC, lN, R.bind, R.bindS, fIxD, seqOf, fGt, fLt, fLe, fGe, fSub, fMod, fDiv, fPow, fI, asB, fInt, gtN, pureO, pureU, outM, outU, fMulE, fMulD, fAddD, sPass, fAbs, fMax2, fMin2, mIf, mL, newO, fLenD, P0.at, pdOf])
    show x.length ≤ 1 * (c + 2)
    omega
  | x :: y :: r, h => by
    have ih := join_len (ts := y :: r) fun t ht => h t (List.mem_cons_of_mem _ ht)
    have hx := h x (by simp [slotsOf, sSeq, sIf, sAsg, sRet, sRetN, sE, sPut, Vm.putIn, bV, bNot, bAnd, bOr, m2, m1, mV, mC, mBt, mCall, lC, lN, R.bind, R.bindS, fIxD, seqOf, fGt, fLt, fLe, fGe, fSub, fMod, fDiv, fPow, fI, asB, fInt, gtN, pureO, pureU, outM, outU, fMulE, fMulD, fAddD, sPass, fAbs, fMax2, fMin2, mIf, mL, newO, fLenD, P0.at, pdOf])
    show (x ++ ", " ++ Str.join ", " (y :: r)).length ≤ _
    have e2 : ((", " : String)
                               : Str).length = 2 := rfl
    rw [strLen_append, strLen_append, e2, List.length_cons, Nat.succ_mul]
    omega
theorem tupleText_len {c : Nat} {ts : List Str} (h : ∀ t ∈ ts, t.length ≤ c) : (tupleText ts).length ≤ ts.length * (c + 2) + 3 := by
  unfold tupleText
  have := join_len h
  have e : (("(" : String) : Str).length = 1 := rfl
  rw [strLen_append, strLen_append, e]
  have e2 : ((if ts.length == 1 then ",)" else ")" : String) : Str).length ≤ 2 := by
    by_cases hb : (ts.length == 1) = true
    · rw [if_pos hb]; decide +kernel
    · rw [if_neg hb]; decide +kernel
  omega
theorem strOk_app (a b : Str) : PyData.strOk (a ++ b) = (PyData.strOk a && PyData.strOk b) := by
  show (a.cps ++ b.cps).all _ = (a.cps.all _ && b.cps.all _)
  rw [Array.all_append]
theorem from_ok : ∀ (ts : List Str) (k : Nat) (acc : Str), PyData.strOk acc = true → (∀ t ∈ ts, PyData.strOk t = true) → PyData.strOk (textFrom k acc ts) = true
  | [], k, acc, h, _ => h
  | t :: r, k, acc, h, ht => by
    refine from_ok r (k + 1) _ ?_ fun x hx => ht x (List.mem_cons_of_mem _ hx)
    rw [strOk_app, strOk_app, h, ht t (by simp [slotsOf, sSeq, sIf, sAsg, sRet, sRetN, sE, sPut, Vm.putIn, bV, bNot, bAnd, bOr, m2, m1, mV, mC, mBt, mCall, lC, lN, R.bind, R.bindS, fIxD, seqOf, fGt, fLt, fLe, fGe, fSub, fMod, fDiv, fPow, fI, asB, fInt, gtN, pureO, pureU, outM, outU, fMulE, fMulD, fAddD, sPass, fAbs, fMax2, fMin2, mIf, mL, newO, fLenD, P0.at, pdOf])]
    have : PyData.strOk ((if k > 0 then ", " else "" : String) : Str) = true := by
      split
      · decide +kernel
      · decide +kernel
    rw [this]
    rfl
theorem listText_ok {ts : List Str} (h : ∀ t ∈ ts, PyData.strOk t = true) : PyData.strOk (listText ts) = true := by
  unfold listText
  rw [strOk_app, from_ok ts 0 _ (by decide +kernel) h]
  decide +kernel
theorem join_ok : ∀ {ts : List Str}, (∀ t ∈ ts, PyData.strOk t = true) → PyData.strOk (Str.join ", " ts) = true
  | [], _ => by decide +kernel
  | [x], h => h x (by simp [slotsOf, sSeq, sIf, sAsg, sRet, sRetN, sE, sPut, Vm.putIn, bV, bNot, bAnd, bOr, m2, m1, mV, mC, mBt, mCall, lC, lN, R.bind, R.bindS, fIxD, seqOf, fGt, fLt, fLe, fGe, fSub, fMod, fDiv, fPow, fI, asB, fInt, gtN, pureO, pureU, outM, outU, fMulE, fMulD, fAddD, sPass, fAbs, fMax2, fMin2, mIf, mL, newO, fLenD, P0.at, pdOf])
  | x :: y :: r, h => by
    have ih := join_ok (ts := y :: r) fun t ht => h t (List.mem_cons_of_mem _ ht)
    show PyData.strOk (x ++ ", " ++ Str.join ", " (y :: r)) = true
    rw [strOk_app, strOk_app, h x (by simp [slotsOf, sSeq, sIf, sAsg, sRet, sRetN, sE, sPut, Vm.putIn, bV, bNot, bAnd, bOr, m2, m1, mV, mC, mBt, mCall, lC, lN, R.bind, R.bindS, fIxD, seqOf, fGt, fLt, fLe, fGe, fSub, fMod, fDiv, fPow, fI, asB, fInt, gtN, pureO, pureU, outM, outU, fMulE, fMulD, fAddD, sPass, fAbs, fMax2, fMin2, mIf, mL, newO, fLenD, P0.at, pdOf]), ih]
    decide +kernel
theorem tupleText_ok {ts : List Str} (h : ∀ t ∈ ts, PyData.strOk t = true) : PyData.strOk (tupleText ts) = true := by
  unfold tupleText
  rw [strOk_app, strOk_app, join_ok h]
  have : PyData.strOk ((if ts.length == 1 then ",)" else ")" : String) : Str) = true := by
    by_cases hb : (ts.length == 1) = true
    · rw [if_pos hb]; decide +kernel
    · rw [if_neg hb]; decide +kernel
  rw [this]
  decide +kernel
structure Sk (c dp : Nat) (d : PyData) : Prop where
  so : PyData.strOk d.shown = true
  lay : d.canLay0 = true
  sw : d.showable = true
  ln : d.shown.length ≤ c
  dp : d.depth ≤ dp
theorem Sk.mono {c c' dp dp' : Nat} {d : PyData} (h : Sk c dp d) (h1 : c ≤ c') (h2 : dp ≤ dp') : Sk c' dp' d := ⟨h.so, h.lay, h.sw, Nat.le_trans h.ln h1, Nat.le_trans h.dp h2⟩
theorem Sk.all {c dp : Nat} : ∀ {ds : List PyData}, (∀ d ∈ ds, Sk c dp d) → PyData.canLayAll0 ds = true ∧ PyData.showableAll ds = true ∧ PyData.depthAll ds ≤ dp ∧ (∀ t ∈ PyData.shownAll ds, PyData.strOk t = true ∧ t.length ≤ c) ∧ (PyData.shownAll ds).length = ds.length
  | [], _ => ⟨rfl, rfl, Nat.zero_le _, fun _ h => (nomatch h), rfl⟩
  | d :: ds, h => by
    obtain ⟨h0, h1, h2, h3, h4⟩ := h d (by simp [slotsOf, sSeq, sIf, sAsg, sRet, sRetN, sE, sPut, Vm.putIn, bV, bNot, bAnd, bOr, m2, m1, mV, mC, mBt, mCall, lC, lN, R.bind, R.bindS, fIxD, seqOf, fGt, fLt, fLe, fGe, fSub, fMod, fDiv, fPow, fI, asB, fInt, gtN, pureO, pureU, outM, outU, fMulE, fMulD, fAddD, sPass, fAbs, fMax2, fMin2, mIf, mL, newO, fLenD, P0.at, pdOf])
    obtain ⟨q1, q2, q3, q4, q5⟩ := Sk.all (ds := ds) fun e he => h e (List.mem_cons_of_mem _ he)
    refine ⟨by simp [slotsOf, sSeq, sIf, sAsg, sRet, sRetN, sE, sPut, Vm.putIn, bV, bNot, bAnd, bOr, m2, m1, mV, mC, mBt, mCall, lC, lN, R.bind, R.bindS, fIxD, seqOf, fGt, fLt, fLe, fGe, fSub, fMod, fDiv, fPow, fI, asB, fInt, gtN, pureO, pureU, outM, outU, fMulE, fMulD, fAddD, sPass, fAbs, fMax2, fMin2, mIf, mL, newO, fLenD, P0.at, pdOf, PyData.canLayAll0, h1, q1], by simp [slotsOf, sSeq, sIf, sAsg, sRet, sRetN, sE, sPut, Vm.putIn, bV, bNot, bAnd, bOr, m2, m1, mV, mC, mBt, mCall, lC, lN, R.bind, R.bindS, fIxD, seqOf, fGt, fLt, fLe, fGe, fSub, fMod, fDiv, fPow, fI, asB, fInt, gtN, pureO, pureU, outM, outU, fMulE, fMulD, fAddD, sPass, fAbs, fMax2, fMin2, mIf, mL, newO, fLenD, P0.at, pdOf, PyData.showableAll, h2, q2], by simp [slotsOf, sSeq, sIf, sAsg, sRet, sRetN, sE, sPut, Vm.putIn, bV, bNot, bAnd, bOr, m2, m1, mV, mC, mBt, mCall, lC, lN, R.bind, R.bindS, fIxD, seqOf, fGt, fLt, fLe, fGe, fSub, fMod, fDiv, fPow, fI, asB, fInt, gtN, pureO, pureU, outM, outU, fMulE, fMulD, fAddD, sPass, fAbs, fMax2, fMin2, mIf, mL, newO, fLenD, P0.at, pdOf, PyData.depthAll]; omega, fun t ht => ?_, by simp [slotsOf, sSeq, sIf, sAsg, sRet, sRetN, sE, sPut, Vm.putIn, bV, bNot, bAnd, bOr, m2, m1, mV, mC, mBt, mCall, lC, lN, R.bind, R.bindS, fIxD, seqOf, fGt, fLt, fLe, fGe, fSub, fMod, fDiv, fPow, fI, asB, fInt, gtN, pureO, pureU, outM, outU, fMulE, fMulD, fAddD, sPass, fAbs, fMax2, fMin2, mIf, mL, newO, fLenD, P0.at, pdOf, PyData.shownAll, q5]⟩
    rcases (by simpa [slotsOf, sSeq, sIf, sAsg, sRet, sRetN, sE, sPut, Vm.putIn, bV, bNot, bAnd, bOr, m2, m1, mV, mC, mBt, mCall, lC, lN, R.bind, R.bindS, fIxD, seqOf, fGt, fLt, fLe, fGe, fSub, fMod, fDiv, fPow, fI, asB, fInt, gtN, pureO, pureU, outM, outU, fMulE, fMulD, fAddD, sPass, fAbs, fMax2, fMin2, mIf, mL, newO, fLenD, P0.at, pdOf, PyData.shownAll] using ht : t = d.shown ∨ t ∈ PyData.shownAll ds) with rfl | ht
    · exact ⟨h0, h3⟩
    · exact q4 t ht
theorem Sk.list {c dp m : Nat} {ds : List PyData} (h : ∀ d ∈ ds, Sk c dp d) (hm : ds.length ≤ m) : Sk (m * (c + 2) + 3) (dp + 1) (.list ds) := by
  obtain ⟨q1, q2, q3, q4, q5⟩ := Sk.all h
  refine ⟨listText_ok fun t ht => (q4 t ht).1, q1, q2, ?_, by show PyData.depthAll ds + 1 ≤ _; omega⟩
  have := listText_len fun t ht => (q4 t ht).2
  have z : ds.length * (c + 2) ≤ m * (c + 2) := Nat.mul_le_mul_right _ hm
  rw [q5] at this
  show (listText (PyData.shownAll ds)).length ≤ _
  omega
theorem Sk.tuple {c dp m : Nat} {ds : List PyData} (h : ∀ d ∈ ds, Sk c dp d) (hm : ds.length ≤ m) : Sk (m * (c + 2) + 3) (dp + 1) (.tuple ds) := by
  obtain ⟨q1, q2, q3, q4, q5⟩ := Sk.all h
  refine ⟨tupleText_ok fun t ht => (q4 t ht).1, q1, q2, ?_, by show PyData.depthAll ds + 1 ≤ _; omega⟩
  have := tupleText_len fun t ht => (q4 t ht).2
  have z : ds.length * (c + 2) ≤ m * (c + 2) := Nat.mul_le_mul_right _ hm
  rw [q5] at this
  show (tupleText (PyData.shownAll ds)).length ≤ _
  omega
theorem Sk.shaped {c dp : Nat} {d : PyData} (h : Sk c dp d) (hd : dp ≤ 60) : SeqAt.shaped d = true := by
  have := h.dp
  simp [slotsOf, sSeq, sIf, sAsg, sRet, sRetN, sE, sPut, Vm.putIn, bV, bNot, bAnd, bOr, m2, m1, mV, mC, mBt, mCall, lC, lN, R.bind, R.bindS, fIxD, seqOf, fGt, fLt, fLe, fGe, fSub, fMod, fDiv, fPow, fI, asB, fInt, gtN, pureO, pureU, outM, outU, fMulE, fMulD, fAddD, sPass, fAbs, fMax2, fMin2, mIf, mL, newO, fLenD, P0.at, pdOf, SeqAt.shaped, h.lay]
  omega
theorem Sk.repr {c dp : Nat} {d : PyData} (h : Sk c dp d) (hd : dp ≤ 60) (hc : c ≤ 100000) : (!d.hasDict && d.showable && decide (d.shown.length ≤ 100000) && decide (d.depth ≤ 60)) = true := by
  have := h.dp
  have := h.ln
  rw [PyData.hasDict_of_canLay d h.lay, h.sw, decide_eq_true (by omega), decide_eq_true (by omega)]
  rfl
end Vm

set_option Elab.async false
set_option linter.all false
set_option maxRecDepth 100000
set_option maxHeartbeats 4100000
namespace Vm
open L2 PyProof.Rows PySem PySem.Spec
/-! ### several except clauses, some with a name -/
abbrev Tsx := Addr → Value → Option Addr → TS
def wHs (K : PySem.W.Frag) (Wout : WX) (D : Ends) : List (Value × Option Nat × Tsx) → WX
  | [] => Wout
  | (cv, none, ts) :: r => fun cls d σ H => ∃ b, PySem.W.exmOne K cls cv = some b ∧ (b = true → ∀ a, H a = none → ts a cls d D σ H) ∧ (b = false → wHs K Wout D r cls d σ H)
  | (cv, some i, ts) :: r => fun cls d σ H => ∃ b, PySem.W.exmOne K cls cv = some b ∧
      (b = true → ∀ a, H a = none → ts a cls d { nx := fun σ1 H1 => D.nx (σ1.set i none) H1, rt := D.rt, bk := fun σ1 H1 => D.bk (σ1.set i none) H1, ct := fun σ1 H1 => D.ct (σ1.set i none) H1 } (σ.set i (some (.ref a))) H) ∧
      (b = false → wHs K Wout D r cls d σ H)
inductive HdsN (X : Cx) : List ExceptHandler → List (Value × Option Nat × Tsx) → Prop
  | nil : HdsN X [] []
  | one {x : Str} {cv : Value} {ts : Tsx} {b₀ : Stmt} {suite : List Stmt} {np pos' : Pos} {hds : List ExceptHandler} {l : List (Value × Option Nat × Tsx)} (hc : Names X x cv)
      (hsu : ∀ (a : Addr) (oe : Obj) (cls : Value) (d : Option Addr) (pn : List (Addr × Obj)), Zc cls d oe → (∃ vs, oe.data = .fields vs) → PSs (X.suite a ((a, oe) :: pn)) (b₀ :: suite) (ts a cls d))
      (r : HdsN X hds l) : HdsN X (.ExceptHandler (some (.Name x np)) none (b₀ :: suite) pos' :: hds) ((cv, none, ts) :: l)
  | named {x n : Str} {i : Nat} {cv : Value} {ts : Tsx} {b₀ : Stmt} {suite : List Stmt} {np pos' : Pos} {hds : List ExceptHandler} {l : List (Value × Option Nat × Tsx)} (hi : X.N[i]? = some n) (hln : X.env.kindOf n = some .local) (hc : Names X x cv)
      (hsu : ∀ (a : Addr) (oe : Obj) (cls : Value) (d : Option Addr) (pn : List (Addr × Obj)), Zc cls d oe → (∃ vs, oe.data = .fields vs) → PSs (X.suite a ((a, oe) :: pn)) (b₀ :: suite) (ts a cls d))
      (r : HdsN X hds l) : HdsN X (.ExceptHandler (some (.Name x np)) (some n) (b₀ :: suite) pos' :: hds) ((cv, some i, ts) :: l)
/-- an exception of the class cls, with the dict d, is caught in X's frame: t is the state, sI the one it was raised in -/
structure Seen (X : Cx) (pins : List (Addr × Obj)) (σ : L2.St) (H : Hp) (a : Addr) (cls : Value) (d : Option Addr) (B : Heap) (sI t : Shared) : Prop where
  frame : X.stack = X.env :: X.outer ∧ X.env.frame = some X.env.locals
  was : Inv X pins σ H sI
  low : ∀ b o, sI.heap.get? b = some o → b ∉ frs X.stack → B.get? b = some o
  slots : sI.heap.UpToSlots t.heap
  fly : HandSPX.FlyingZ B (X.env :: X.outer) a (Zc cls d) t.heap
  new : H a = none
  sameOs : t.os = sI.os
  bare : AllBare t.gens
namespace Seen
section
variable {X : Cx} {pins : List (Addr × Obj)} {σ : L2.St} {H : Hp} {a : Addr} {cls : Value} {d : Option Addr} {B : Heap} {sI t : Shared} {D : Ends}
/-- the flight may be noted once more -/
theorem again (k : Seen X pins σ H a cls d B sI t) {g : Heap} (f : HandSPX.FlyingZ B (X.env :: X.outer) a (Zc cls d) g) (u : t.heap.UpToSlots g) : Seen X pins σ H a cls d B sI { t with heap := g } :=
  { frame := k.frame, was := k.was, low := k.low, slots := k.slots.trans u, fly := f, new := k.new, sameOs := k.sameOs, bare := k.bare }
theorem inv (k : Seen X pins σ H a cls d B sI t) : Inv X pins σ H t := Inv.landed k.was k.low k.fly.1 k.slots k.sameOs k.bare
/-- its object, and where it does not lie -/
theorem obj (k : Seen X pins σ H a cls d B sI t) : ∃ (q : Obj) (fs : Array Value), t.heap.get? a = some q ∧ Zc cls d q ∧ q.data = .fields fs ∧ a ∉ frs (X.env :: X.outer) := by
  obtain ⟨q, fs, e1, e2, e3⟩ := k.fly.there
  exact ⟨q, fs, e1, e2, e3, fun m => (k.fly.2.2.1.mem m).elim fun _ z => z.elim fun q2 y => absurd e3 (by
    have := y.1.symm.trans e1
    cases this
    exact y.2 _)⟩
theorem inSuite (k : Seen X pins σ H a cls d B sI t) : ∃ q : Obj, Zc cls d q ∧ (∃ fs, q.data = .fields fs) ∧ Inv (X.suite a ((a, q) :: (X.pn ++ pins))) [] σ H t := by
  obtain ⟨q, fs, e1, e2, e3, out⟩ := k.obj
  refine ⟨q, e2, ⟨fs, e3⟩, k.inv.suite e1 e3 k.new (fun e => ?_) fun m => ?_⟩
  · exact out (List.mem_filterMap.mpr ⟨X.env, .head _, e ▸ k.frame.2⟩)
  · obtain ⟨v, hv, e⟩ := List.mem_filterMap.mp m
    exact out (List.mem_filterMap.mpr ⟨v, .tail _ hv, e⟩)
/-- the class of a clause is looked up and held against it -/
theorem tested (k : Seen X pins σ H a cls d B sI t) {x : Str} {np : Pos} {cv : Value} {b : Bool} (nm : Names X x cv) (e : PySem.W.exmOne X.K cls cv = some b) {R : Bool → Shared → Prop} {E E2 : Value → Shared → Prop} (r : R b t) :
    wpAny (model X.prog X.w) (X.A.mark (some (.ref a))) (eval (.Name x np) X.env) (fun c u => wpAny (model X.prog X.w) (X.A.mark (some (.ref a))) (excMatches (.ref a) c) R E u) E2 t := by
  obtain ⟨q, fs, e1, e2, _, _⟩ := k.obj
  obtain ⟨q', _, _, I⟩ := k.inSuite
  have cl : PySem.W.Looks (model X.prog X.w) t.heap (typeOf (.ref a)) cls := fun _ _ _ _ kp y => wpAny_typeOf_ref (kp _ _ e1) (e2.1.symm ▸ y)
  have ans := (PySem.W.exm_one (M := model X.prog X.w) k.inv.kIn cl e).here (A := X.A.mark (some (.ref a))) (E := E) (Q := R) (s := t) r
  rcases nm.2.2 with m | ⟨m, bv, nn⟩
  · exact ld_glob (X := X.suite a ((a, q') :: (X.pn ++ pins))) I nm.1 m ans nm.2.1
  · exact ld_blt (X := X.suite a ((a, q') :: (X.pn ++ pins))) I nm.1 m bv ans nn nm.2.1
/-- no clause is left: it flies on -/
theorem out (k : Seen X pins σ H a cls d B sI t) {W : WX} (tk : Takes X W) (w : W cls d σ H) : wpAny (model X.prog X.w) X.A (handleBy (.ref a) X.env []) (SP X pins D) X.xe t := by
  apply wpAny_handleBy_nil
  obtain ⟨_, _, _, _, _, T, _, _, e1, _, e3, e4, _⟩ := id k.fly
  have nn : ¬ (Value.ref T == Value.none) = true := by intro z; cases z
  have last : wpAny (model X.prog X.w) X.A (setFlight (.ref a) X.env.frame) (fun _ u => wpAny (model X.prog X.w) X.A (throw (.ref a) : Sem Flow) (SP X pins D) X.xe u) X.xe t :=
    k.frame.2.symm ▸ HandSPX.setFlight_upZ k.fly fun g held u => wpAny_throw (tk (.ref a) { t with heap := g } ⟨a, B, sI, pins, σ, H, cls, d, rfl, k.was, k.low, k.slots.trans u, .inr (.inr (k.frame.1.symm ▸ held)), k.new, k.sameOs, k.bare, w⟩)
  unfold PySem.passOn
  apply wpAny_bind
  apply wpAny_field e1 e3 e4
  rw [if_neg nn]
  first
    | exact wpAny_bind last
    | exact wpAny_bind (wpAny_pure (wpAny_bind last))
end
end Seen
/-- how a suite's end is an end of the whole -/
theorem SP.leave {X : Cx} {a : Addr} {q : Addr × Obj} {pins : List (Addr × Obj)} {D : Ends} (ok : X.Ok) {f : Flow} {u : Shared} (y : SP (X.suite a (q :: (X.pn ++ pins))) [] D f u) : SP X pins D f u := by
  cases f with
  | ret w => exact y.imp fun _ y => y.imp fun _ y => y.imp fun _ y => ⟨y.1.unsuite ok, y.2⟩
  | _ => exact y.imp fun _ y => y.imp fun _ y => ⟨y.1.unsuite ok, y.2⟩
/-- behind it the clause's name goes -/
abbrev Ends.without (D : Ends) (i : Nat) : Ends := { nx := fun σ H => D.nx (σ.set i none) H, rt := D.rt, bk := fun σ H => D.bk (σ.set i none) H, ct := fun σ H => D.ct (σ.set i none) H }
theorem SP.nameless {X : Cx} {pins : List (Addr × Obj)} {D : Ends} {i : Nat} {n : Str} {p : Pos} (nd : X.N.Nodup) (hi : X.N[i]? = some n) (hl : X.env.kindOf n = some .local) {f : Flow} {u : Shared} (y : SP X pins (Ends.without D i) f u) :
    wpAny (model X.prog X.w) X.A (do bindName X.env n .none; unbindBehindTheSuite X.env n p) (fun _ v => SP X pins D f v) X.xe u := by
  cases f with
  | ret w =>
    obtain ⟨c1, c2, c3, J, c4, c5⟩ := y
    exact gone_ok J nd hi hl fun v K => ⟨c1, _, c3, K, c4, c5⟩
  | _ =>
    obtain ⟨c1, c2, J, c3⟩ := y
    exact gone_ok J nd hi hl fun v K => ⟨_, c2, K, c3⟩
section
variable {X : Cx} {pins : List (Addr × Obj)} {σ : L2.St} {H : Hp} {a : Addr} {cls : Value} {d : Option Addr} {B : Heap} {sI t : Shared} {D : Ends} {x : Str} {cv : Value} {ts : Tsx} {b₀ : Stmt} {suite : List Stmt} {np pos' : Pos} {hds : List ExceptHandler}
abbrev SuiteOk (X : Cx) (ss : List Stmt) (ts : Tsx) : Prop := ∀ (a : Addr) (q : Obj) (cls : Value) (d : Option Addr) (pn : List (Addr × Obj)), Zc cls d q → (∃ fs, q.data = .fields fs) → PSs (X.suite a ((a, q) :: pn)) ss (ts a cls d)
/-- a clause that does not take it -/
theorem Seen.skip (k : Seen X pins σ H a cls d B sI t) {nn : Option Str} (nm : Names X x cv) (e : PySem.W.exmOne X.K cls cv = some false) (r : wpAny (model X.prog X.w) X.A (handleBy (.ref a) X.env hds) (SP X pins D) X.xe t) :
    wpAny (model X.prog X.w) X.A (handleBy (.ref a) X.env (.ExceptHandler (some (.Name x np)) nn (b₀ :: suite) pos' :: hds)) (SP X pins D) X.xe t :=
  wpAny_handleBy_cons (codeAny_handlers_test (k.tested nm e r)) (fun z => nomatch z)
/-- a clause without a name that takes it -/
theorem Seen.plain (k : Seen X pins σ H a cls d B sI t) (nm : Names X x cv) (e : PySem.W.exmOne X.K cls cv = some true) (sk : SuiteOk X (b₀ :: suite) ts) (r : ts a cls d D σ H) :
    wpAny (model X.prog X.w) X.A (handleBy (.ref a) X.env (.ExceptHandler (some (.Name x np)) none (b₀ :: suite) pos' :: hds)) (SP X pins D) X.xe t := by
  refine wpAny_handleBy_cons (codeAny_handlers_test (k.tested nm e (codeAny_handlers_suite (HandSPX.lands_againZ k.fly fun g f u => ?_)))) fun z => nomatch z
  obtain ⟨q, zq, fq, I⟩ := (k.again f u).inSuite
  exact wpAny_mono ((sk a q cls d _ zq fq).run [] _ σ H D I r) (fun _ _ y => SP.leave k.was.ok y) fun _ _ => False.elim
/-- one with a name -/
theorem Seen.named (k : Seen X pins σ H a cls d B sI t) {i : Nat} {n : Str} (nd : X.N.Nodup) (hi : X.N[i]? = some n) (hl : X.env.kindOf n = some .local) (nm : Names X x cv) (e : PySem.W.exmOne X.K cls cv = some true) (sk : SuiteOk X (b₀ :: suite) ts) (r : ts a cls d (Ends.without D i) (σ.set i (some (.ref a))) H) :
    wpAny (model X.prog X.w) X.A (handleBy (.ref a) X.env (.ExceptHandler (some (.Name x np)) (some n) (b₀ :: suite) pos' :: hds)) (SP X pins D) X.xe t := by
  refine wpAny_handleBy_cons (codeAny_handlers_test (k.tested nm e (codeAny_handlers_suite_as (HandSPX.lands_againZ k.fly fun g f u => ?_)))) fun z => nomatch z
  obtain ⟨q, zq, fq, I⟩ := (k.again f u).inSuite
  refine store_ok (X := X.suite a ((a, q) :: (X.pn ++ pins))) (v := V.ref a) (u := .ref a) I nd hi (Or.inl hl) rfl (fun v J => ?_) (Or.inr hl)
  exact wpAny_mono ((sk a q cls d _ zq fq).run [] v _ H _ J r) (fun _ _ y => SP.nameless nd hi hl (SP.leave k.was.ok y)) fun _ _ => False.elim
/-- all clauses, one after the other -/
theorem Seen.clauses (k : Seen X pins σ H a cls d B sI t) (nd : X.N.Nodup) {W : WX} (tk : Takes X W) {l : List (Value × Option Nat × Tsx)} (hk : HdsN X hds l) : wHs X.K W D l cls d σ H → wpAny (model X.prog X.w) X.A (handleBy (.ref a) X.env hds) (SP X pins D) X.xe t := by
  induction hk with
  | nil => exact k.out tk
  | one nm sk _ ih =>
    rintro ⟨b, e, y, n⟩
    cases b with
    | true => exact k.plain nm e sk (y rfl a k.new)
    | false => exact k.skip nm e (ih (n rfl))
  | named hi hl nm sk _ ih =>
    rintro ⟨b, e, y, n⟩
    cases b with
    | true => exact k.named nd hi hl nm e sk (y rfl a k.new)
    | false => exact k.skip nm e (ih (n rfl))
end
/-- try with clauses of both kinds -/
theorem ps_tryN {X : Cx} {body : List Stmt} {h₀ : ExceptHandler} {hds : List ExceptHandler} {l : List (Value × Option Nat × Tsx)} {pos : Pos} {tb : WX → TS} {W : WX} (st : X.stack = X.env :: X.outer) (fr : X.env.frame = some X.env.locals) (nd : X.N.Nodup) (tk : Takes X W)
    (bd : ∀ (W' : WX) (pn : List (Addr × Obj)) (xe : Value → Shared → Prop), Takes (X.tr pn xe) W' → PassesOwn (model X.prog X.w) X.A X.env xe → PSs (X.tr pn xe) body (tb W')) (hk : HdsN X (h₀ :: hds) l) :
    PS X (.Try body (h₀ :: hds) [] [] pos) fun D σ H => tb (wHs X.K W D l) D σ H := by
  constructor
  intro pins s σ H D I r
  have fs : X.A.frames = some (X.env :: X.outer) := st ▸ I.ok.frames
  let caught : Value → Shared → Prop := fun e s₁ => wpAny (model X.prog X.w) X.A (noteFrame e X.env) (fun _ s₂ => wpAny (model X.prog X.w) X.A (setFlight e none) (fun _ s₃ => wpAny (model X.prog X.w) X.A (handleBy e X.env (h₀ :: hds)) (SP X pins D) X.xe s₃) X.xe s₂) X.xe s₁
  have takes : Takes (X.tr (X.pn ++ pins) caught) (wHs X.K W D l) := by
    rintro e s₁ ⟨a, B, sI, pn, σ₁, H₁, cls, d, rfl, J, low, up, sky, new, os, ag, w⟩
    refine Sky.land Zc.steady fs fr (st ▸ sky : Sky B (X.env :: X.outer) a (Zc cls d) X.env.locals s₁.heap) fun g f u => ?_
    exact Seen.clauses { frame := ⟨st, fr⟩, was := J.ofTry I.ok, low := low, slots := up.trans u, fly := f, new := new, sameOs := os, bare := ag } nd tk hk w
  refine wpAny_Try_except (wpAny_mono ((bd _ (X.pn ++ pins) caught takes PassesOwn.looking).run [] s σ H D (I.toTry _) r) (fun f u y => ?_) fun _ _ y => y)
  cases f with
  | next =>
    obtain ⟨c1, c2, J, c3⟩ := y
    exact wpAny_execs_nil ⟨c1, c2, J.ofTry I.ok, c3⟩
  | ret w => exact y.imp fun _ y => y.imp fun _ y => y.imp fun _ y => ⟨y.1.ofTry I.ok, y.2⟩
  | _ => exact y.imp fun _ y => y.imp fun _ y => ⟨y.1.ofTry I.ok, y.2⟩
/-- the mirror of one clause -/
structure Hm where
  tks : Nat → Option Bool
  slot : Option Nat
  sx : Nat → List (Str × U) → Ms
def handM : List Hm → Nat → List (Str × U) → Sl → Mh → RS
  | [], c, f, s, h => .ex c f s h
  | hd :: r, c, f, s, h => match hd.tks c with
    | some true => match hd.slot with
      | none => noEx (hd.sx c [] s h)
      | some i => match f with
        | [] => .stuck
        | p :: f => unslot i (hd.sx c (p :: f) (s.set i (some .exn)) h)
    | some false => handM r c f s h
    | none => .stuck
def sTryM (b : Ms) (hs : List Hm) : Ms := fun s h => match b s h with
  | .ex c f s1 h1 => handM hs c f s1 h1
  | r => r
/-- what a clause's suite keeps -/
def tsOf (g : Gc) (m : Hm) : Tsx := match m.slot with
  | none => fun _ cls d D σ H => ∃ c, cls = .ref (g.cl c) ∧ m.tks c = some true ∧ TSm g W0 (m.sx c []) D σ H
  | some _ => fun a cls d D σ H => ∃ c dd f, cls = .ref (g.cl c) ∧ d = some dd ∧ m.tks c = some true ∧ TSm (g.at a dd f) W0 (m.sx c f) D σ H
def tsl (g : Gc) : List Value → List Hm → List (Value × Option Nat × Tsx)
  | cv :: cvs, m :: hs => (cv, m.slot, tsOf g m) :: tsl g cvs hs
  | _, _ => []
inductive HdM (X : Cx) (g : Gc) : List ExceptHandler → List Value → List Hm → Prop
  | nil : HdM X g [] [] []
  | one {x : Str} {cv : Value} {b₀ : Stmt} {suite : List Stmt} {np pos' : Pos} {hds : List ExceptHandler} {cvs : List Value} {hs : List Hm} {tks : Nat → Option Bool} {N : Ms} (hc : Names X x cv)
      (hx : ∀ c k, tks c = some k → PySem.W.exmOne X.K (.ref (g.cl c)) cv = some k)
      (hsu : ∀ (a : Addr) (pn : List (Addr × Obj)), PSs (X.suite a pn) (b₀ :: suite) (TSm g W0 N))
      (r : HdM X g hds cvs hs) : HdM X g (.ExceptHandler (some (.Name x np)) none (b₀ :: suite) pos' :: hds) (cv :: cvs) (⟨tks, none, fun _ _ => N⟩ :: hs)
  | named {x n : Str} {i : Nat} {cv : Value} {b₀ : Stmt} {suite : List Stmt} {np pos' : Pos} {hds : List ExceptHandler} {cvs : List Value} {hs : List Hm} {tks : Nat → Option Bool} {N : Nat → List (Str × U) → Ms} (hi : X.N[i]? = some n) (hln : X.env.kindOf n = some .local) (hc : Names X x cv)
      (hx : ∀ c k, tks c = some k → PySem.W.exmOne X.K (.ref (g.cl c)) cv = some k)
      (hsu : ∀ (a : Addr) (oe : Obj) (c : Nat) (dd : Addr) (f : List (Str × U)) (pn : List (Addr × Obj)), tks c = some true → Zc (.ref (g.cl c)) (some dd) oe → (∃ vs, oe.data = .fields vs) → PSs (X.suite a ((a, oe) :: pn)) (b₀ :: suite) (TSm (g.at a dd f) W0 (N c f)))
      (r : HdM X g hds cvs hs) : HdM X g (.ExceptHandler (some (.Name x np)) (some n) (b₀ :: suite) pos' :: hds) (cv :: cvs) (⟨tks, some i, N⟩ :: hs)
section
variable {X : Cx} {g : Gc} {W : WX} {M : Ms}
theorem HdM.hds {l : List ExceptHandler} {cvs : List Value} {hs : List Hm} (k : HdM X g l cvs hs) : HdsN X l (tsl g cvs hs) := by
  induction k with
  | nil => exact .nil
  | one hc hx hsu r ih =>
    refine .one hc (fun a oe cls d pn _ _ => ⟨fun pins s σ H D I q => ?_⟩) ih
    obtain ⟨c, _, _, q⟩ := q
    exact (hsu a _).run pins s σ H D I q
  | named hi hln hc hx hsu r ih =>
    refine .named hi hln hc (fun a oe cls d pn hz hd => ⟨fun pins s σ H D I q => ?_⟩) ih
    obtain ⟨c, dd, f, rfl, rfl, ht, q⟩ := q
    exact (hsu a oe c dd f pn ht hz hd).run pins s σ H D I q
theorem hand_ok {l : List ExceptHandler} {cvs : List Value} {hs : List Hm} (hgx : g.exn = none) (k : HdM X g l cvs hs) {ρ ρ' : Wd} {c : Nat} {f : List (Str × U)} {s1 : Sl} {h1 : Mh} {D : Ends} {σ' : L2.St} {H' : Hp} (p : PostS g W ρ (handM hs c f s1 h1) D) (e' : Wd.Le ρ ρ')
    (c' : Cs g ρ' h1 H') (r' : Rsl g ρ' s1 σ') : (f = [] → wHs X.K W D (tsl g cvs hs) (.ref (g.cl c)) none σ' H') ∧ ∀ d gs, f ≠ [] → H' d = none → Rf g ρ' f gs → wHs X.K W D (tsl g cvs hs) (.ref (g.cl c)) (some d) σ' (upd H' d (.xd gs)) := by
  induction k with
  | nil => exact p ρ' σ' H' e' c' r'
  | @one x cv b₀ suite np pos' hds cvs hs tks N hc hx hsu r ih =>
    unfold handM at p
    cases et : tks c with
    | none => simp only [et] at p; exact p.elim
    | some b =>
      have ek := hx c b et
      simp only [et] at p
      cases b with
      | true =>
        have q : PostS g W0 ρ' (N s1 h1) D := PostS.mono e' (PostS.noEx p)
        exact ⟨fun _ => ⟨true, ek, fun _ a _ => ⟨c, rfl, et, ρ', s1, h1, r', c', q⟩, (fun z => nomatch z)⟩, fun d gs _ hd _ => ⟨true, ek, fun _ a _ => ⟨c, rfl, et, ρ', s1, h1, r', c'.skip hd, q⟩, (fun z => nomatch z)⟩⟩
      | false => exact ⟨fun f0 => ⟨false, ek, (fun z => nomatch z), fun _ => (ih p).1 f0⟩, fun d gs f0 hd rf => ⟨false, ek, (fun z => nomatch z), fun _ => (ih p).2 d gs f0 hd rf⟩⟩
  | @named x n i cv b₀ suite np pos' hds cvs hs tks N hi hln hc hx hsu r ih =>
    unfold handM at p
    cases et : tks c with
    | none => simp only [et] at p; exact p.elim
    | some b =>
      have ek := hx c b et
      simp only [et] at p
      cases b with
      | false => exact ⟨fun f0 => ⟨false, ek, (fun z => nomatch z), fun _ => (ih p).1 f0⟩, fun d gs f0 hd rf => ⟨false, ek, (fun z => nomatch z), fun _ => (ih p).2 d gs f0 hd rf⟩⟩
      | true =>
        cases f with
        | nil => exact p.elim
        | cons p0 f0 =>
        simp only at p
        have hne : p0 :: f0 ≠ [] := by simp
        clear ih
        generalize p0 :: f0 = f at p hne
        refine ⟨fun f0 => absurd f0 hne, fun d gs _ hd rf => ⟨true, ek, fun _ a ha => ⟨c, d, f, rfl, rfl, et, ρ', s1.set i (some .exn), h1, ?_, Cs.up hgx (c'.skip hd) rf upd_same, ?_⟩, (fun z => nomatch z)⟩⟩
        · exact Paired.set (F := Rol (g.at a d f) ρ') (x := some .exn) (y := some (.ref a)) ⟨a, d, f, rfl, rfl⟩ i (Rsl.up hgx r')
        · have p := PostS.mono e' p
          show PostS (g.at a d f) W0 ρ' (N c f (s1.set i (some .exn)) h1) _
          cases en : N c f (s1.set i (some .exn)) h1 with
          | nx s2 h2 =>
            rw [en] at p
            simp only [unslot] at p
            cases ek : (cleanS (s2.set i none) && h2.all cleanO) with
            | true =>
              rw [ek, if_pos rfl] at p
              rw [Bool.and_eq_true] at ek
              intro ρ2 σ2 H2 e2 c2 r2
              exact p ρ2 _ H2 e2 (c2.down hgx ek.2) (Rsl.down (Paired.set (F := Rol (g.at a d f) ρ2) (x := none) (y := none) trivial i r2) ek.1)
            | false => rw [ek, if_neg Bool.false_ne_true] at p; exact p.elim
          | rt u h2 =>
            rw [en] at p
            simp only [unslot] at p
            cases ek : (clean u && h2.all cleanO) with
            | true =>
              rw [ek, if_pos rfl] at p
              rw [Bool.and_eq_true] at ek
              intro ρ2 v2 H2 e2 c2 r2
              exact p ρ2 v2 H2 e2 (c2.down hgx ek.2) (Rl.down r2 ek.1)
            | false => rw [ek, if_neg Bool.false_ne_true] at p; exact p.elim
          | bk s2 h2 => rw [en] at p; exact p.elim
          | ct s2 h2 => rw [en] at p; exact p.elim
          | ex c2 f2 s2 h2 => rw [en] at p; exact p.elim
          | stuck => rw [en] at p; exact p.elim
theorem s_tryM {body : List Stmt} {h₀ : ExceptHandler} {hds : List ExceptHandler} {pos : Pos} {cvs : List Value} {hl : List Hm} (hgx : g.exn = none) (hs : X.stack = X.env :: X.outer) (hf : X.env.frame = some X.env.locals) (hN : X.N.Nodup) (tk : Takes X W)
    (hb : ∀ (W' : WX) (pn : List (Addr × Obj)) (xe : Value → Shared → Prop), Takes (X.tr pn xe) W' → PassesOwn (model X.prog X.w) X.A X.env xe → PSs (X.tr pn xe) body (TSm g W' M))
    (hh : HdM X g (h₀ :: hds) cvs hl) : PS X (.Try body (h₀ :: hds) [] [] pos) (TSm g W (sTryM M hl)) := by
  refine PS.im (ps_tryN (tb := fun W' => TSm g W' M) hs hf hN tk hb hh.hds) fun D σ H ⟨ρ, s, h, hr, cs, p⟩ => ?_
  refine ⟨ρ, s, h, hr, cs, ?_⟩
  unfold sTryM at p
  cases em : M s h with
  | ex c f s1 h1 =>
    rw [em] at p
    intro ρ' σ' H' e' c' r'
    exact hand_ok hgx hh p e' c' r'
  | nx s1 h1 => rw [em] at p; exact p
  | rt u h1 => rw [em] at p; exact p
  | bk s1 h1 => rw [em] at p; exact p
  | ct s1 h1 => rw [em] at p; exact p
  | stuck => rw [em] at p; exact p
end
end Vm

set_option Elab.async false
set_option linter.all false
set_option maxRecDepth 100000
set_option maxHeartbeats 4100000
namespace Vm
open L2 PyProof.Rows PySem PySem.Spec
/-! ### defs that show text: called where nothing is being shown -/
structure FnG (P : Program) (w : World) (K : PySem.W.Frag) (mg : Str → Option Value) (base : Heap) (k : Nat) (f : Addr) (fd : FuncData) (ps : List Str) (sp : Sp) : Prop where
  lenG : ∀ vs H Q E, sp vs H Q E → vs.length = ps.length
  runG : ∀ (A : Around) (outer : List Env) (s : Shared) (H : Hp) (args : Args) (us : List Value) (vs : List V) (Q : VK) (E : XK), A.guards = some [] → Room k A → Env0 P w K mg base A outer s H → BindsTo s fd args (ps.zip us) → Vals vs us → sp vs H Q E →
    codeAny (model P w) A (.call (.ref f) args) (CR (L2.CX P w) outer P w H s Q E) s
section
variable {X : Cx} {g : Gc} {E : WX} {L : Ml} {e : Expr} {es : List Expr} {pos : Pos}
theorem run_fnG {k : Nat} {f : Addr} {fd : FuncData} {ps : List Str} {sp : Sp} {EE : L2.St → XK} {pins : List (Addr × Obj)} {σ : L2.St} {H : Hp} {s : Shared} {Q : VK} {us : List Value} {vs : List V} (F : FnG X.prog X.w X.K X.mg X.base k f fd ps sp) (hG : X.A.guards = some []) (hr : Room k X.A) (hb : Binds X.K fd ps []) (lets : PassesAt (L2.CX X.prog X.w) X σ (EE σ))
    (I : Inv X pins σ H s) (rv : Vals vs us) (q : sp vs H Q (EE σ)) : wpAny (model X.prog X.w) X.A (call (.ref f) us) (EP X pins σ Q) X.xe s := by
  have many : us.length = ps.length := rv.length.symm.trans (F.lenG vs H Q (EE σ) q)
  have bound : BindsTo s fd ⟨us, []⟩ (ps.zip us) := by simpa using hb s us I.kIn (by simpa using many)
  have ran := F.runG X.A X.stack s H ⟨us, []⟩ us vs Q (EE σ) hG hr I.env0 bound rv q
  apply wpAny_call
  apply codeAny_mono ran
  rintro (e | fl) t y
  · exact lets pins H s e t I y
  · cases fl with
    | ret u => exact I.after y
    | _ => exact y.elim
theorem pe_callG {k : Nat} {f : Addr} {fd : FuncData} {ps : List Str} {sp : Sp} {EE : L2.St → XK} {t : TA} {x : Str} {p : Pos} (F : FnG X.prog X.w X.K X.mg X.base k f fd ps sp) (hG : X.A.guards = some []) (hr : Room k X.A) (hg : Gl X x) (hm : X.mg x = some (.ref f)) (hk : PySem.W.keepIn X.K (.ref f) = true) (hb : Binds X.K fd ps []) (lets : ∀ σ, PassesAt (L2.CX X.prog X.w) X σ (EE σ))
    (ha : PA X (e :: es) t) (hdb : (x == ("__debug__" : Str)) = false := by decide) (first : starEach (e :: es) X.env = (false, eval e X.env) :: starEach es X.env := by rfl) (plain : (backTo pos (starEach es X.env)).any (·.1) = false := by rfl) :
    PE X (.Call (.Name x p) (e :: es) [] pos) (tCallS sp EE t) := by
  constructor
  intro pins s σ H Q I q
  have args := ha.run pos pins s σ H (fun vs H1 => sp vs H1 Q (EE σ)) I q
  exact wpAny_Call_Name_kw (ld_glob I hg hm (PySem.W.callWith_K (h₀ := X.base) I.ok.mod.kin hk (thn args fun us t ⟨vs, H1, J, rv, y⟩ => ⟨J.kIn, run_fnG F hG hr hb (lets σ) J rv y⟩) first plain) hdb)
theorem e_callG {k : Nat} {f : Addr} {fd : FuncData} {ps : List Str} {n : Nat} {d : List U → Mh → R U} {x : Str} {p : Pos} (F : FnG X.prog X.w X.K X.mg X.base k f fd ps (spM g n d)) (hG : X.A.guards = some []) (hr : Room k X.A) (hg : Gl X x) (hm : X.mg x = some (.ref f)) (hk : PySem.W.keepIn X.K (.ref f) = true) (hb : Binds X.K fd ps []) (tk : Takes X E)
    (ha : PA X (e :: es) (TL g E L)) (hl : ∀ s h xs h', L s h = .ok xs h' → xs.length = n) (hdb : (x == ("__debug__" : Str)) = false := by decide) (first : starEach (e :: es) X.env = (false, eval e X.env) :: starEach es X.env := by rfl) (plain : (backTo pos (starEach es X.env)).any (·.1) = false := by rfl) :
    PE X (.Call (.Name x p) (e :: es) [] pos) (T g E (mCall d L)) := by
  refine PE.im (pe_callG F hG hr hg hm hk hb (fun σ => passAt tk σ) ha hdb first plain) fun σ H Q q => ?_
  obtain ⟨ρ, s, h, hs, cs, p⟩ := q
  refine ⟨ρ, s, h, hs, cs, ?_⟩
  cases el : L s h with
  | ok xs h1 =>
    unfold mCall at p
    rw [el] at p
    intro ρ1 vs H1 e1 c1 r1
    refine ⟨by rw [← Paired.length r1]; exact hl _ _ _ _ el, ρ1, xs, h1, r1, c1, Post.mono e1 p⟩
  | ex c f h1 =>
    unfold mCall at p
    rw [el] at p
    exact p
  | stuck =>
    unfold mCall at p
    rw [el] at p
    exact p.elim
end
/-- what the body of such a def keeps -/
def GBody (P : Program) (w : World) (K : PySem.W.Frag) (mg : Str → Option Value) (base : Heap) (g : Gc) (qual : Str) (st : Stmt) (N : List Str) (f : Addr) (k : Nat) (m : Ms) : Prop :=
  ∀ (cdv : Value) (A : Around) (outer : List Env) (s : Shared) (H : Hp) (E : XK), A.guards = some [] → Room k (A.deeper (envOfC qual (defScope st) s.heap.objs.size f cdv)) →
    (cxOf (L2.CX P w) P w K mg base N qual (defScope st) f cdv A outer s H E).A.units + 65 < cLine →
    PassesOwn (model P w) (cxOf (L2.CX P w) P w K mg base N qual (defScope st) f cdv A outer s H E).A (cxOf (L2.CX P w) P w K mg base N qual (defScope st) f cdv A outer s H E).env (cxOf (L2.CX P w) P w K mg base N qual (defScope st) f cdv A outer s H E).xe →
    Takes (cxOf (L2.CX P w) P w K mg base N qual (defScope st) f cdv A outer s H E) (fun cls d _ H => E cls d H) →
    PSs (cxOf (L2.CX P w) P w K mg base N qual (defScope st) f cdv A outer s H E) (defBody st) (TSm g (fun cls d _ H => E cls d H) m)
section
variable {P : Program} {w : World} {K : PySem.W.Frag} {mg : Str → Option Value} {base : Heap} {g : Gc} {x qual : Str} {st : Stmt} {f : Addr} {fd : FuncData} {N ps : List Str} {k : Nat} {m : Ms}
theorem fn_okG {d : List U → Mh → R U} (rr : ∀ {n : Nat} {vs : List V} {H : Hp} {Q : VK} {E : XK}, spM g n d vs H Q E → TSm g (fun cls d _ H => E cls d H) m { nx := fun _ H' => Q .non H', rt := Q } (L2.start N vs) H) (F : Fun K x qual st f fd) (S : FnScope N ps (defScope st)) (body : GBody P w K mg base g qual st N f k m) :
    FnG P w K mg base (k + 1) f fd ps (spM g ps.length d) :=
  ⟨fun vs H Q E q => q.1, fun A outer s H args us vs Q E hG hr e0 hb r q => fn_at F S hr e0 hb r q.1 fun cdv hr' =>
    ⟨_, body cdv A outer s H E hG hr' (by have := hr'.un; show (A.deeper (envOfC qual (defScope st) s.heap.objs.size f cdv)).units + 65 < cLine; omega) (passes_of rfl) (takes_of rfl rfl rfl rfl), rr q⟩⟩
theorem fn_okPG (hg : g.exn = none) (F : Fun K x qual st f fd) (S : FnScope N ps (defScope st)) (body : GBody P w K mg base g qual st N f k m) : FnG P w K mg base (k + 1) f fd ps (spM g ps.length (runP (pfn N.length m))) :=
  fn_okG (fun q => run_readP hg q) F S body
theorem fn_okMG (hg : g.exn = none) (F : Fun K x qual st f fd) (S : FnScope N ps (defScope st)) (body : GBody P w K mg base g qual st N f k m) : FnG P w K mg base (k + 1) f fd ps (spM g ps.length (runM (pmf N.length m))) :=
  fn_okG (fun q => run_readM hg q) F S body
end
/-! ### x in an instance of an own class that says so itself -/
def rOwnIn (ng : Bool) (C : Addr) (sp : Sp) : R2 := fun x y H Q => ∃ a dx fs, y = .ref a ∧ H a = some (.ins C dx fs) ∧ sp [.ref a, x] H (fun v H1 => ∃ b, v = .bl b ∧ Q (.bl (if ng then !b else b)) H1) (fun _ _ _ => False)
section
variable {X : Cx} {g : Gc} {k : Nat} {C fm : Addr} {fd : FuncData} {ps : List Str} {sp : Sp}
theorem contains_own {pins : List (Addr × Obj)} {σ : L2.St} {H : Hp} {s : Shared} {x : V} {u : Value} {a dx : Addr} {fs : List (Str × V)} {Q : Bool → Shared → Prop} {R : Bool → Hp → Prop} (hm : Meth X.K C "__contains__" fm) (F : FnOk X.prog X.w X.K X.mg X.base (L2.CX X.prog X.w) k fm fd ps sp) (hr : Room k X.A) (hb : Binds X.K fd ps []) (hx : ∀ σ, PassesAt (L2.CX X.prog X.w) X σ (fun _ _ _ => False))
    (I : Inv X pins σ H s) (rx : RelV x u) (ea : H a = some (.ins C dx fs)) (h : sp [.ref a, x] H (fun v H1 => ∃ b, v = .bl b ∧ R b H1) (fun _ _ _ => False)) (hq : ∀ b H1 s1, Inv X pins σ H1 s1 → R b H1 → Q b s1) :
    wpAny (model X.prog X.w) X.A (contains (.ref a) u) Q X.xe s := by
  have ⟨mA, whole, _⟩ := ins_get I.hok ea
  obtain ⟨od, J, hl⟩ := whole.look
  have sp1 : ∀ {A : Around} {Q' : Option Value → Shared → Prop} {E : Value → Shared → Prop}, Q' (some (.ref fm)) s → wpAny (model X.prog X.w) A (specialOf (.ref a) "__contains__") Q' E s := fun {A Q' E} q => by
    unfold specialOf
    exact wpAny_bind (J.type.here ((PySem.W.looks_findIn I.kIn hm.at_).here (by first | exact q | exact wpAny_pure q)))
  unfold contains
  refine wpAny_holding ?_
  show wpAny _ _ (do
    if (← specialOf (.ref a) "__contains__") == some .none then
      rule "in.none"; raiseError "TypeError" s!"'{← typeNameOf (.ref a)}' object is not a container"
    match ← callSpecialUnlessNone? (.ref a) "__contains__" [u] (do rule "in.none"; raiseError "TypeError" s!"'{← typeNameOf (.ref a)}' object is not a container") with
    | some r => truthy r
    | none => _) _ _ _
  refine wpAny_bind (sp1 ?_)
  rw [if_neg (by intro z; cases z)]
  refine wpAny_bind ?_
  unfold callSpecialUnlessNone?
  refine wpAny_bind (sp1 ?_)
  refine wpAny_holding (wpAny_bind ((PySem.W.bind_fn I.kIn (.ref a) (beq_iff_eq.mp hm.fn)).here ?_))
  show wpAny _ _ (if (Value.ref fm == Value.none) = true then _ else _) _ _ _
  rw [if_neg (by intro z; cases z)]
  refine wpAny_bind (wpAny_mono (run_fnS (us := [.ref a, u]) (vs := [.ref a, x]) (E := fun _ _ _ _ => False) F hr hb (hx σ) I (.cons rfl (.cons rx .nil)) h) (fun v s1 hv => ?_) fun _ _ z => z)
  obtain ⟨v', H1, I1, rv, b, rfl, q⟩ := hv
  obtain rfl : v = Value.bool b := rv
  exact wpAny_pure (wpAny_truthy_bool (hq b H1 s1 I1 q))
theorem o_inOwn (hm : Meth X.K C "__contains__" fm) (F : FnOk X.prog X.w X.K X.mg X.base (L2.CX X.prog X.w) k fm fd ps sp) (hr : Room k X.A) (hb : Binds X.K fd ps []) : OpR X (compareOp .In) (rOwnIn false C sp) := by
  intro pins t σ H x y v u Q I rx ry ⟨a, dx, fs, ey, ea, h⟩
  subst ey
  cases (show u = .ref a from ry)
  show wpAny _ _ (do return Value.bool (← contains (.ref a) v) : Sem Value) _ _ _
  exact wpAny_bind (contains_own (R := fun b H1 => Q (.bl b) H1) hm F hr hb (fun σ pins H s e s1 I c => passL pins σ H s e s1 I c) I rx ea h fun b H1 s1 I1 q => wpAny_pure ⟨.bl b, H1, I1, rfl, q⟩)
theorem o_notinOwn (hm : Meth X.K C "__contains__" fm) (F : FnOk X.prog X.w X.K X.mg X.base (L2.CX X.prog X.w) k fm fd ps sp) (hr : Room k X.A) (hb : Binds X.K fd ps []) : OpR X (compareOp .NotIn) (rOwnIn true C sp) := by
  intro pins t σ H x y v u Q I rx ry ⟨a, dx, fs, ey, ea, h⟩
  subst ey
  cases (show u = .ref a from ry)
  show wpAny _ _ (do return Value.bool (!(← contains (.ref a) v)) : Sem Value) _ _ _
  exact wpAny_bind (contains_own (R := fun b H1 => Q (.bl (!b)) H1) hm F hr hb (fun σ pins H s e s1 I c => passL pins σ H s e s1 I c) I rx ea h fun b H1 s1 I1 q => wpAny_pure ⟨.bl !b, H1, I1, rfl, q⟩)
def fInOwn (ng : Bool) (c : Nat) (d : List U → Mh → R U) : F2 := fun x y h => match insD c y h with
  | some _ => match d [y, x] h with
    | .ok (.bl b) h1 => .ok (.bl (if ng then !b else b)) h1
    | _ => .stuck
  | none => .stuck
theorem s_inOwn {ng : Bool} {c : Nat} {d : List U → Mh → R U} : S2 g (fInOwn ng c d) (rOwnIn ng (g.cl c) (spM g 2 d)) := fun E ρ x y vx vy h H Q rx ry cs p => by
  unfold fInOwn at p
  cases ei : insD c y h with
  | none => rw [ei] at p; exact p.elim
  | some fs =>
    rw [ei] at p
    simp only at p
    obtain ⟨a, dx, gs, rfl, rf, qa⟩ := insD_ok cs ry ei
    refine ⟨a, dx, gs, rfl, qa, rfl, ρ, [y, x], h, .cons ry (.cons rx .nil), cs, ?_⟩
    cases ed : d [y, x] h with
    | ok u h1 =>
      rw [ed] at p
      cases u with
      | bl b => exact fun ρ1 v H1 e1 c1 r1 => ⟨b, r1, p ρ1 _ H1 e1 c1 rfl⟩
      | _ => exact p.elim
    | ex cc ff h1 => rw [ed] at p; exact p.elim
    | stuck => rw [ed] at p; exact p.elim
end
/-! ### the caught exception's field, by the clause's class -/
theorem tk_eq {n i c : Nat} (h0 : i ≠ 0) (ht : tk0 n (fun c => c == i || i == 0) c = some true) : c = i := by
  unfold tk0 at ht
  split at ht
  · simp only [Option.some.injEq, Bool.or_eq_true, beq_iff_eq] at ht
    rcases ht with h | h
    · exact h
    · exact absurd h h0
  · cases ht
theorem e_xfT {X : Cx} {g : Gc} {W : WX} {A : Me} {e : Expr} {pos : Pos} {a : Addr} {oe : Obj} {c i m : Nat} {dd : Addr} {f : List (Str × U)} {pn : List (Addr × Obj)} {n : Str} (h0 : i ≠ 0) (ht : tk0 m (fun c => c == i || i == 0) c = some true) (T : XfC X.K (g.cl i)) (hno : PySem.W.findIn X.K (.ref (g.cl i)) n = some none)
    (hz : Zc (.ref (g.cl c)) (some dd) oe) (hf : ∃ vs, oe.data = .fields vs) (he : PE (X.suite a ((a, oe) :: pn)) e (Vm.T (g.at a dd f) W A)) (hb : attributeBase e n X.env (eval e X.env) = eval e X.env := by rfl) :
    PE (X.suite a ((a, oe) :: pn)) (.Attribute e n pos) (Vm.T (g.at a dd f) W (mXf f n A)) := by
  have ec := tk_eq h0 ht
  subst ec
  exact e_xf T hno hz hf he hb
end Vm

set_option Elab.async false
set_option linter.all false
set_option maxRecDepth 100000
set_option maxHeartbeats 4100000
namespace Vm
open L2 PyProof.Rows PySem PySem.Spec
/-! ### a text, several times over -/
def strRep (z : Str) (n : Nat) : Str := ⟨(List.replicate n z.cps).foldl (· ++ ·) #[]⟩
def rRepS : R2 := fun x y H Q => ∃ (z : Str) (k : Int), x = .str z ∧ y = .int k ∧ 2 ≤ k ∧ k ≤ 1000 ∧ 1 ≤ z.length ∧ z.length * k.toNat ≤ 100000 ∧ (strRep z k.toNat).length ≤ 100000 ∧ Q (.str (strRep z k.toNat)) H
section
variable {X : Cx} {g : Gc}
theorem op_repS : OpR X (binaryOp .Mult) rRepS := by
  intro pins st σ H x y v u Q I rx ry ⟨z, k, ex, ey, h2, h3, h4, h5, h6, q⟩
  subst ex ey
  obtain ⟨t, rfl⟩ := rx
  obtain ⟨t', rfl⟩ := ry
  have n1 : ¬ k < 1 := by omega
  have zl : z.length ≤ 100000 := by
    have : z.length * 1 ≤ z.length * k.toNat := Nat.mul_le_mul (Nat.le_refl _) (by omega)
    omega
  have e1 : (k == 1 || z.length == 0) = false := by
    rw [Bool.or_eq_false_iff]
    exact ⟨beq_eq_false_iff_ne.mpr (by omega), beq_eq_false_iff_ne.mpr (by omega)⟩
  have hd : (100000 : Int) ≤ (2 ^ 63 - 1) / k := by
    rw [Int.le_ediv_iff_mul_le (by omega)]
    omega
  refine P.mul_str ?_ (fun _ _ => by omega) (fun _ _ => decide_eq_false (Nat.not_lt.mpr (big_line h5))) ?_
  · rw [Bool.or_eq_false_iff]
    exact ⟨decide_eq_false (by omega), decide_eq_false (by omega)⟩
  · rw [if_neg n1, if_neg (by rw [e1]; exact Bool.false_ne_true)]
    exact ⟨big_line h6, .str (strRep z k.toNat), H, I.tok _, ⟨_, rfl⟩, q⟩
abbrev rMulS (K : PySem.W.Frag) : R2 := fun x y H Q => rMulE K x y H Q ∨ rRepS x y H Q
theorem o_mulS : OpR X (binaryOp .Mult) (rMulS X.K) := OpR.or o_mulE op_repS
def fMulS : F2 := fun x y h => match x, y with
  | .str z, .int k => if decide (2 ≤ k ∧ k ≤ 1000 ∧ 1 ≤ z.length ∧ z.length * k.toNat ≤ 100000 ∧ (strRep z k.toNat).length ≤ 100000) then .ok (.str (strRep z k.toNat)) h else .stuck
  | _, _ => fMulE x y h
theorem s_mulS {K : PySem.W.Frag} (hK : K = g.K := by assumption) : S2 g fMulS (rMulS K) := fun E ρ x y vx vy h H Q rx ry cs p => by
  unfold fMulS at p
  split at p
  · rename_i z k
    split at p
    · rename_i c
      simp only [decide_eq_true_eq] at c
      exact .inr ⟨z, k, rx, ry, c.1, c.2.1, c.2.2.1, c.2.2.2.1, c.2.2.2.2, Post.here (rel := Rl g) p cs rfl⟩
    · exact p.elim
  · exact .inl (s_mulE hK E ρ x y vx vy h H Q rx ry cs p)
end
end Vm

set_option Elab.async false
set_option linter.all false
set_option maxRecDepth 100000
set_option maxHeartbeats 4100000
namespace Vm
open L2 PyProof.Rows PySem PySem.Spec
/-! ### bits -/
def fAnd : F2 := fI (fun _ _ => true) fun i j => .int (Builtin.bitAnd i j)
def fOr : F2 := fI (fun _ _ => true) fun i j => .int (Builtin.bitOr i j)
def fShl : F2 := fI (fun i j => decide (0 ≤ j ∧ j ≤ 1000000 ∧ i.natAbs < 2 ^ 64)) fun i j => .int (i * 2 ^ j.toNat)
def fShr : F2 := fI (fun _ j => decide (0 ≤ j)) fun i j => .int (i / 2 ^ j.toNat)
def fInv : U → Mh → R U := fun x h => match x with
  | .int i => .ok (.int (Builtin.bitNot i)) h
  | _ => .stuck
section
variable {g : Gc}
theorem s_and : S2 g fAnd (rI0 fun i j => .int (Builtin.bitAnd i j)) := s_fI0 fun _ _ _ => rfl
theorem s_or : S2 g fOr (rI0 fun i j => .int (Builtin.bitOr i j)) := s_fI0 fun _ _ _ => rfl
theorem s_shl : S2 g fShl (rI CPow fun i j => .int (i * 2 ^ j.toNat)) := s_fI (fun i j h => (of_decide_eq_true h : 0 ≤ j ∧ j ≤ 1000000 ∧ i.natAbs < 2 ^ 64)) fun _ _ _ => rfl
theorem s_shr : S2 g fShr (rI (fun _ j => 0 ≤ j) fun i j => .int (i / 2 ^ j.toNat)) := s_fI (fun _ _ => of_decide_eq_true) fun _ _ _ => rfl
theorem s_inv : S1 g fInv (rU fun i => .int (Builtin.bitNot i)) := fun E ρ x vx h H Q r cs p => by
  cases x with
  | int i => exact ⟨i, r, Post.here (rel := Rl g) p cs rfl⟩
  | _ => exact p.elim
end
/-! ### a def that calls itself, to a depth -/
theorem fn_no {P : Program} {w : World} {K : PySem.W.Frag} {mg : Str → Option Value} {base : Heap} {g : Gc} {f : Addr} {fd : FuncData} {ps : List Str} {k : Nat} : FnOk P w K mg base (L2.CX P w) k f fd ps (spM g ps.length (runP fun _ => .stuck)) :=
  ⟨fun _ _ _ _ q => q.1, fun _ _ _ _ _ _ _ _ _ _ _ _ _ q => q.2.elim fun _ q => q.elim fun _ q => q.elim fun _ q => q.2.2.elim⟩
end Vm

set_option Elab.async false
set_option linter.all false
set_option maxRecDepth 100000
set_option maxHeartbeats 4100000
namespace Vm
open L2 PyProof.Rows PySem PySem.Spec
/-! ### tuples of texts that stand in the module -/
def KT (K : PySem.W.Frag) (a : Addr) (l : List Str) : Prop := ∃ (o : Obj) (its : Array Value) (n : Nat), K.lookup a = some o ∧ o.cls = .type "tuple" ∧ o.dict = none ∧ o.data = .seq its n ∧ its.size ≤ sizeLine ∧ Vals (l.map V.str) its.toList
def strsB : List Value → List Str → Bool
  | [], [] => true
  | .str x _ :: vs, y :: l => decide (x = y) && strsB vs l
  | _, _ => false
theorem strsB_ok : ∀ {vs : List Value} {l : List Str}, strsB vs l = true → Vals (l.map V.str) vs
  | [], [], _ => .nil
  | .str x t :: vs, y :: l, h => by
    have k := Bool.and_eq_true_iff.mp (show (decide (x = y) && strsB vs l) = true from h)
    have e := of_decide_eq_true k.1
    subst e
    exact .cons ⟨t, rfl⟩ (strsB_ok k.2)
  | [], _ :: _, h => nomatch h
  | .str _ _ :: _, [], h => nomatch h
  | .none :: _, [], h => nomatch h
  | .none :: _, _ :: _, h => nomatch h
  | .bool _ :: _, [], h => nomatch h
  | .bool _ :: _, _ :: _, h => nomatch h
  | .int _ _ :: _, [], h => nomatch h
  | .int _ _ :: _, _ :: _, h => nomatch h
  | .float _ _ :: _, [], h => nomatch h
  | .float _ _ :: _, _ :: _, h => nomatch h
  | .bytes _ _ :: _, [], h => nomatch h
  | .bytes _ _ :: _, _ :: _, h => nomatch h
  | .ref _ :: _, [], h => nomatch h
  | .ref _ :: _, _ :: _, h => nomatch h
  | .type _ :: _, [], h => nomatch h
  | .type _ :: _, _ :: _, h => nomatch h
  | .builtin _ :: _, [], h => nomatch h
  | .builtin _ :: _, _ :: _, h => nomatch h
def ktB (K : PySem.W.Frag) (a : Addr) (l : List Str) : Bool := match K.lookup a with
  | some ⟨.type t, none, .seq its _, _⟩ => decide (t = "tuple") && (Nat.ble its.size 1000 && strsB its.toList l)
  | _ => false
theorem ktB_ok {K : PySem.W.Frag} {a : Addr} {l : List Str} (h : ktB K a l = true) : KT K a l := by
  unfold ktB at h
  split at h
  · rename_i t its n sl e
    rw [Bool.and_eq_true, Bool.and_eq_true, Nat.ble_eq] at h
    obtain ⟨h1, h2, h3⟩ := h
    have ht := of_decide_eq_true h1
    subst ht
    exact ⟨_, its, n, e, rfl, rfl, rfl, Nat.le_trans h2 (big_line (by decide)), strsB_ok h3⟩
  · cases h
theorem KT.rl {K : PySem.W.Frag} {a : Addr} {l : List Str} (k : KT K a l) {g : Gc} (e : K = g.K) (ρ : Wd) : Rl g ρ (.dat (.tuple (l.map PyData.str))) (.ref a) := by
  subst e
  obtain ⟨o, its, n, h1, h2, h3, h4, h5, h6⟩ := k
  have all : ∀ l : List Str, DqAll g.K ρ.fz (l.map V.str) (l.map PyData.str) := fun l => by
    induction l with
    | nil => exact .nil
    | cons x l ih => exact .cons (.str x) ih
  exact ⟨rfl, .tup (.inr ⟨o, its, n, h1, h2, h3, h4, h5, h6⟩) (all l)⟩
theorem e_globT {X : Cx} {g : Gc} {E : WX} {pos : Pos} {x : Str} {a : Addr} {l : List Str} (hK : X.K = g.K) (hg : Gl X x) (hm : X.mg x = some (.ref a)) (k : KT X.K a l) (hd : (x == ("__debug__" : Str)) = false := by decide) : PE X (.Name x pos) (T g E (mC (.dat (.tuple (l.map PyData.str))))) :=
  e_glob (v := .ref a) hg hm rfl (fun ρ => k.rl hK ρ) hd
end Vm

set_option Elab.async false
set_option linter.all false
set_option maxRecDepth 100000
set_option maxHeartbeats 4100000
namespace Vm
open L2 PyProof.Rows PySem PySem.Spec
/-! ### dicts of texts that stand in the module -/
inductive EntAre (pr : Params) : List DictEntry → List (Str × Str) → Prop
  | nil : EntAre pr [] []
  | cons {e : DictEntry} {k v : Str} {es : List DictEntry} {kvs : List (Str × Str)} : e.hash = PyData.keyHash pr k → (∃ t, e.key = .str k t) → (∃ t, e.val = .str v t) → EntAre pr es kvs → EntAre pr (e :: es) ((k, v) :: kvs)
structure KDo (pr : Params) (o : Obj) (kvs : List (Str × Str)) : Prop where
  exact : o.ExactDict
  data : ∃ es n, o.data = .dict es n ∧ EntAre pr es.toList kvs
def KD (K : PySem.W.Frag) (w : World) (a : Addr) (kvs : List (Str × Str)) : Prop := (a == sysModules) = false ∧ (kvs.map (·.1)).Nodup ∧ ∃ o, K.lookup a = some o ∧ KDo w.params o kvs
/-- what a key finds -/
def Finds (vs : List (Str × Value)) (kvs : List (Str × Str)) : Prop := ∀ z : Str, match kvs.lookup z with
  | none => valueAt vs z = none
  | some y => ∃ t, valueAt vs z = some (.str y t)
theorem EntAre.vals {prog : Program} {w : World} : ∀ {es : List DictEntry} {kvs : List (Str × Str)}, EntAre w.params es kvs → ∃ vs : List (Str × Value), (∀ e ∈ es, ∃ k, (strKind prog w).is k e.key = true ∧ e.hash = (strKind prog w).hash k) ∧ Pairs (strKind prog w) es vs ∧ vs.map (·.1) = kvs.map (·.1) ∧ Finds vs kvs
  | _, _, .nil => ⟨[], (fun _ h => nomatch h), .nil, rfl, (fun _ => rfl)⟩
  | _, _, @EntAre.cons _ e k v es kvs h1 ⟨t1, h2⟩ ⟨t2, h3⟩ r => by
    obtain ⟨vs, q1, q2, q3, q4⟩ := r.vals (prog := prog)
    have is1 : (strKind prog w).is k e.key = true := by rw [h2]; exact strKind_is prog w k t1
    refine ⟨(k, e.val) :: vs, fun e' h => ?_, .cons is1 rfl q2, ?_, fun z => ?_⟩
    · rcases List.mem_cons.mp h with e1 | h
      · rw [e1]; exact ⟨k, is1, h1⟩
      · exact q1 e' h
    · show k :: vs.map (·.1) = k :: kvs.map (·.1)
      rw [q3]
    · by_cases hz : z = k
      · subst hz
        have l1 : List.lookup z ((z, v) :: kvs) = some v := by simp [List.lookup]
        rw [l1]
        exact ⟨t2, by simp [valueAt, List.find?, h3]⟩
      · have l1 : List.lookup z ((k, v) :: kvs) = kvs.lookup z := by
          have : (z == k) = false := beq_eq_false_iff_ne.mpr hz
          simp [List.lookup, this]
        have l2 : valueAt ((k, e.val) :: vs) z = valueAt vs z := by
          have : ¬ k = z := fun e => hz e.symm
          simp [valueAt, List.find?, this]
        rw [l1, l2]
        exact q4 z
theorem KD.dict {K : PySem.W.Frag} {prog : Program} {w : World} {a : Addr} {kvs : List (Str × Str)} (k : KD K w a kvs) {h : Heap} (I : K.In h) : ∃ vs, h.DictOf (strKind prog w) a vs ∧ Finds vs kvs := by
  obtain ⟨_, nd, o, lk, ex, es, n, hd, en⟩ := k
  obtain ⟨vs, q1, q2, q3, q4⟩ := en.vals (prog := prog)
  exact ⟨vs, ⟨o, es, n, I a o lk, ex, hd, fun e he => q1 e (by simpa using he), q2, by rw [q3]; exact nd⟩, q4⟩
def gFind (kvs : List (Str × Str)) (ng : Bool) (z : Str) : Bool := match kvs.lookup z with
  | none => ng
  | some _ => !ng
def rInG (kvs : List (Str × Str)) (ng : Bool) (a : Addr) : R2 := fun x y H Q => ∃ z, x = .str z ∧ y = .ref a ∧ Q (.bl (gFind kvs ng z)) H
section
variable {X : Cx} {g : Gc} {W : WX} {A : Me} {e : Expr} {pos : Pos} {a : Addr} {kvs : List (Str × Str)} {x : Str} {p : Pos}
theorem op_inG (k : KD X.K X.w a kvs) : OpR X (compareOp .In) (rInG kvs false a) := by
  intro pins t σ H x y v u Q I rx ry ⟨z, ex, ey, q⟩
  subst ex ey
  obtain ⟨t1, rfl⟩ := rx
  cases (show u = .ref a from ry)
  obtain ⟨vs, hd, fd⟩ := k.dict (prog := X.prog) I.kIn
  refine wpAny_in_of (strKind_is X.prog X.w z t1) k.1 hd.mapOf ⟨.bl (gFind kvs false z), H, I.tok _, ?_, q⟩
  have := fd z
  unfold gFind
  cases hl : kvs.lookup z with
  | none => rw [hl] at this; rw [this]; rfl
  | some y => rw [hl] at this; obtain ⟨t, e⟩ := this; rw [e]; rfl
theorem op_notinG (k : KD X.K X.w a kvs) : OpR X (compareOp .NotIn) (rInG kvs true a) := by
  intro pins t σ H x y v u Q I rx ry ⟨z, ex, ey, q⟩
  subst ex ey
  obtain ⟨t1, rfl⟩ := rx
  cases (show u = .ref a from ry)
  obtain ⟨vs, hd, fd⟩ := k.dict (prog := X.prog) I.kIn
  refine wpAny_notIn_of (strKind_is X.prog X.w z t1) k.1 hd.mapOf ⟨.bl (gFind kvs true z), H, I.tok _, ?_, q⟩
  have := fd z
  unfold gFind
  cases hl : kvs.lookup z with
  | none => rw [hl] at this; rw [this]; rfl
  | some y => rw [hl] at this; obtain ⟨t, e⟩ := this; rw [e]; rfl
def fInG (kvs : List (Str × Str)) (ng : Bool) : U → Mh → R U := fun u h => match u with
  | .str z => .ok (.bl (gFind kvs ng z)) h
  | _ => .stuck
theorem s_inG {ng : Bool} : S1 g (fInG kvs ng) (fun v H Q => rInG kvs ng a v (.ref a) H Q) := fun E ρ u v h H Q r cs p => by
  cases u with
  | str z => exact ⟨z, r, rfl, Post.here (rel := Rl g) p cs rfl⟩
  | _ => exact p.elim
theorem e_inG (k : KD X.K X.w a kvs) (hg : Gl X x) (hm : X.mg x = some (.ref a)) (he : PE X e (T g W A)) (hd : (x == ("__debug__" : Str)) = false := by decide) (hb : behindInMarks .In (.Name x p) = false := by rfl) : PE X (.Compare e [.In] [.Name x p] pos) (T g W (m1 (fInG kvs false) A)) :=
  PE.im (pe_cmpR (op_inG k) he (pe_glob (v := .ref a) hg hm rfl hd) hb) fun _ _ _ q => at1 s_inG q
theorem e_notinG (k : KD X.K X.w a kvs) (hg : Gl X x) (hm : X.mg x = some (.ref a)) (he : PE X e (T g W A)) (hd : (x == ("__debug__" : Str)) = false := by decide) (hb : behindInMarks .NotIn (.Name x p) = false := by rfl) : PE X (.Compare e [.NotIn] [.Name x p] pos) (T g W (m1 (fInG kvs true) A)) :=
  PE.im (pe_cmpR (op_notinG k) he (pe_glob (v := .ref a) hg hm rfl hd) hb) fun _ _ _ q => at1 s_inG q
theorem t_of1 {ng : Bool} {σ : L2.St} {H : Hp} {Q : Bool → Hp → Prop} (q : TB g W (bV (m1 (fInG kvs ng) A)) σ H Q) : T g W A σ H fun v H1 => rInG kvs ng a v (.ref a) H1 fun y H' => ∃ b, y = .bl b ∧ Q b H' := by
  refine at1 (s_inG (g := g)) ?_
  refine At.seq (rel := Rl g) (m := m1 (fInG kvs ng) A) (k := fun x _ h1 => asB x h1) q fun ρ1 x s h1 v H1 hs1 c1 r1 p1 => ?_
  cases x with
  | bl k => exact ⟨k, r1, Post.here (rel := relB) p1 c1 rfl⟩
  | _ => exact p1.elim
theorem t_inG (k : KD X.K X.w a kvs) (hg : Gl X x) (hm : X.mg x = some (.ref a)) (he : PE X e (T g W A)) (hd : (x == ("__debug__" : Str)) = false := by decide) (hb : behindInMarks .In (.Name x p) = false := by rfl) : PT X (.Compare e [.In] [.Name x p] pos) (TB g W (bV (m1 (fInG kvs false) A))) :=
  PT.im (pt_cmpR (op_inG k) he (pe_glob (v := .ref a) hg hm rfl hd) hb) fun _ _ _ q => t_of1 q
theorem t_notinG (k : KD X.K X.w a kvs) (hg : Gl X x) (hm : X.mg x = some (.ref a)) (he : PE X e (T g W A)) (hd : (x == ("__debug__" : Str)) = false := by decide) (hb : behindInMarks .NotIn (.Name x p) = false := by rfl) : PT X (.Compare e [.NotIn] [.Name x p] pos) (TB g W (bV (m1 (fInG kvs true) A))) :=
  PT.im (pt_cmpR (op_notinG k) he (pe_glob (v := .ref a) hg hm rfl hd) hb) fun _ _ _ q => t_of1 q
/-- D[x] -/
def fIxG (kvs : List (Str × Str)) : U → Mh → R U := fun u h => match u with
  | .str z => match kvs.lookup z with
    | some y => .ok (.str y) h
    | none => .stuck
  | _ => .stuck
def rIxG (kvs : List (Str × Str)) : V → Hp → VK → Prop := fun x H Q => ∃ z y, x = .str z ∧ kvs.lookup z = some y ∧ Q (.str y) H
theorem s_ixG : S1 g (fIxG kvs) (rIxG kvs) := fun E ρ u v h H Q r cs p => by
  cases u with
  | str z =>
    unfold fIxG at p
    simp only at p
    cases hl : kvs.lookup z with
    | none => rw [hl] at p; exact p.elim
    | some y => rw [hl] at p; exact ⟨z, y, r, hl, Post.here (rel := Rl g) p cs rfl⟩
  | _ => exact p.elim
theorem pe_ixG {te : TE} (k : KD X.K X.w a kvs) (hg : Gl X x) (hm : X.mg x = some (.ref a)) (he : PE X e te) (ns : NoSl e) (hd : (x == ("__debug__" : Str)) = false := by decide) : PE X (.Subscript (.Name x p) e pos) (fun σ H Q => te σ H fun v H1 => rIxG kvs v H1 Q) := by
  constructor
  intro pins s σ H Q I h
  refine subD_of (T := "dict") PySem.F.slot_dict_getitem.lookup ns (ld_glob I hg hm ?_ hd)
  refine thn (he.run pins s σ H _ I h) fun u t ⟨v, H1, J, rv, z, y, ev, hl, q⟩ => ?_
  subst ev
  obtain ⟨t1, rfl⟩ := rv
  obtain ⟨vs, hdd, fd⟩ := k.dict (prog := X.prog) J.kIn
  have fz := fd z
  rw [hl] at fz
  obtain ⟨t2, ez⟩ := fz
  exact ⟨hdd.typeIs, wpAny_getItem_of (strKind_is X.prog X.w z t1) hdd.mapOf ez ⟨.str y, H1, J.tok _, ⟨t2, rfl⟩, q⟩⟩
theorem e_ixG (k : KD X.K X.w a kvs) (hg : Gl X x) (hm : X.mg x = some (.ref a)) (he : PE X e (T g W A)) (ns : NoSl e := by exact fun _ _ => rfl) (hd : (x == ("__debug__" : Str)) = false := by decide) : PE X (.Subscript (.Name x p) e pos) (T g W (m1 (fIxG kvs) A)) :=
  PE.im (pe_ixG k hg hm he ns hd) fun _ _ _ q => at1 s_ixG q
end
end Vm

set_option Elab.async false
set_option linter.all false
set_option maxRecDepth 100000
set_option maxHeartbeats 4100000
namespace Vm
open L2 PyProof.Rows PySem PySem.Spec
/-! ### lists of whole numbers: the greatest, how many unlike ones -/
def intsOf : List U → Option (List Int)
  | [] => some []
  | .int i :: r => match intsOf r with
    | some is => some (i :: is)
    | none => none
  | _ => none
section
variable {g : Gc}
theorem ints_rel {ρ : Wd} : ∀ {xs : List U} {vs : List V} {is : List Int}, Rls g ρ xs vs → intsOf xs = some is → vs = is.map V.int
  | [], _, _, .nil, e => by
    unfold intsOf at e
    cases e
    rfl
  | x :: xs, _, is, .cons r rs, e => by
    cases x with
    | int i =>
      unfold intsOf at e
      cases e1 : intsOf xs with
      | none => rw [e1] at e; cases e
      | some it =>
        rw [e1] at e
        cases e
        rw [ints_rel rs e1, r]
        rfl
    | _ => unfold intsOf at e; cases e
/-- the list of whole numbers at u -/
def intList (u : U) (h : Mh) : Option (List Int) := match seqOf u h with
  | some (true, xs) => intsOf xs
  | _ => none
theorem intList_ok {ρ : Wd} {h : Mh} {H : Hp} (cs : Cs g ρ h H) {u : U} {v : V} {is : List Int} (r : Rl g ρ u v) (e : intList u h = some is) : ∃ a, v = .ref a ∧ SqL g.K H a (is.map V.int) := by
  unfold intList at e
  split at e
  · rename_i xs es
    obtain ⟨a, vs, rfl, rv, hl, _⟩ := seq_ok cs r es
    have := ints_rel rv e
    subst this
    exact ⟨a, rfl, SqL.of (hl rfl)⟩
  · cases e
def greatest : List Int → Int
  | [] => 0
  | [i] => i
  | i :: r => max i (greatest r)
theorem greatest_is : ∀ {is : List Int} {m : Int}, m ∈ is → (∀ y, y ∈ is → y ≤ m) → greatest is = m
  | [i], m, h, _ => by
    rw [List.mem_singleton.mp h]
    rfl
  | i :: j :: r, m, h, k => by
    show max i (greatest (j :: r)) = m
    have ub : ∀ (l : List Int) (b : Int), l ≠ [] → (∀ y, y ∈ l → y ≤ b) → greatest l ≤ b := fun l b => by
      induction l with
      | nil => exact fun h => absurd rfl h
      | cons a t ih =>
        intro _ hb
        cases t with
        | nil => exact hb a (.head _)
        | cons c u => exact Int.max_le.mpr ⟨hb a (.head _), ih (by simp) fun y hy => hb y (.tail _ hy)⟩
    rcases (List.mem_cons.mp h) with e | h
    · have := ub (j :: r) m (by simp) fun y hy => k y (.tail _ hy)
      subst e
      omega
    · have e := greatest_is h fun y hy => k y (.tail _ hy)
      have := k i (.head _)
      omega
def fMaxL : List U → Mh → R U := fun us h => match us with
  | [u] => match intList u h with
    | some (i :: is) => .ok (.int (greatest (i :: is))) h
    | _ => .stuck
  | _ => .stuck
theorem s_maxL {K : PySem.W.Frag} (hK : K = g.K := by assumption) : SL g fMaxL (rMax K) := fun E ρ xs vs h H Q r cs p => by
  subst hK
  unfold fMaxL at p
  split at p
  · obtain ⟨v, rfl, r1⟩ := one_of r
    split at p
    · rename_i i is ei
      obtain ⟨a, rfl, hl⟩ := intList_ok cs r1 ei
      refine ⟨a, i :: is, rfl, hl, by simp, fun m h1 h2 => ?_⟩
      have := greatest_is h1 h2
      rw [this] at p
      exact Post.here (rel := Rl g) p cs rfl
    · exact p.elim
  · exact p.elim
/-- how many unlike ones -/
def unlike (ns : List Int) : Nat := (firstMet (fun i => ns.getD i 0) ns.length).length
def rLenSet (K : PySem.W.Frag) : V → Hp → VK → Prop := fun x H Q => ∃ (a : Addr) (ns : List Int), x = .ref a ∧ SqL K H a (ns.map V.int) ∧ ns.length ≤ 60 ∧ Q (.int (unlike ns)) H
def fLenSet : U → Mh → R U := fun u h => match intList u h with
  | some ns => if Nat.ble ns.length 60 then .ok (.int (unlike ns)) h else .stuck
  | none => .stuck
theorem s_lenSet {K : PySem.W.Frag} (hK : K = g.K := by assumption) : S1 g fLenSet (rLenSet K) := fun E ρ u v h H Q r cs p => by
  subst hK
  unfold fLenSet at p
  split at p
  · rename_i ns ei
    obtain ⟨a, rfl, hl⟩ := intList_ok cs r ei
    by_cases hz : Nat.ble ns.length 60 = true
    · rw [if_pos hz] at p
      exact ⟨a, ns, rfl, hl, Nat.ble_eq.mp hz, Post.here (rel := Rl g) p cs rfl⟩
    · rw [if_neg hz] at p
      exact p.elim
  · exact p.elim
end
section
variable {X : Cx} {g : Gc} {W : WX} {A : Me} {a : Expr} {ta : TE} {p p2 q pos : Pos}
theorem pe_lenSetN (hc : X.calm = true) (hg : Gl X "len") (hm : X.mg "len" = none) (hg2 : Gl X "set") (hm2 : X.mg "set" = none) (ha : PE X a ta) (na : starEach [a] X.env = (false, eval a X.env) :: starEach [] X.env := by rfl) :
    PE X (.Call (.Name "len" p) [.Call (.Name "set" p2) [a] [] q] [] pos) (fun σ H Q => ta σ H fun x H1 => rLenSet X.K x H1 Q) := by
  constructor
  intro pins s σ H Q I w
  refine Call_ (ld_blt I hg hm PySem.boot_len (PyProof.Rows.callWith_builtin1 (PyProof.Rows.args_cons (Call_ (ld_blt I hg2 hm2 PyProof.Rows.boot_set ?inner) rfl) rfl) rfl rfl)) rfl
  refine PyProof.Rows.callWith_type1 (PyProof.Rows.args_cons (thn (ha.run pins s σ H _ I w) fun v t ⟨x, H1, J, rx, l, ns, ex, hq, few, y⟩ => PyProof.Rows.args_nil ?_) na) na rfl
  subst ex
  cases rx
  obtain ⟨its, rv, pl, _⟩ := J.list hq
  have size : its.toArray.size = ns.length := by rw [List.size_toArray, ← rv.length, List.length_map]
  refine call_set_list (J.ok.hd hc) pl.isList (ns := ns) (by simpa using rv.ints) (by unfold scanBound; omega) fun h' tk made kept => PyProof.Rows.args_nil ?_
  rw [size] at made
  obtain ⟨o, es, ep, tb, ho, hex, hd, _, _, _, hf, many⟩ := made
  have J2 : Inv X pins σ H1 { t with heap := h', toks := tk } := J.kept fun b o e => kept b o (Heap.lt_size e) e
  have le := firstMet_length_le (fun i => ns.getD i 0) ns.length
  refine call_len_set ho hex hd hf (by rw [many]; omega) ⟨.int (unlike ns), H1, J2.tok _, ⟨_, by rw [many]; rfl⟩, y⟩
theorem e_lenSet (hK : X.K = g.K) (hc : X.calm = true) (hg : Gl X "len") (hm : X.mg "len" = none) (hg2 : Gl X "set") (hm2 : X.mg "set" = none) (ha : PE X a (T g W A)) (na : starEach [a] X.env = (false, eval a X.env) :: starEach [] X.env := by rfl) :
    PE X (.Call (.Name "len" p) [.Call (.Name "set" p2) [a] [] q] [] pos) (T g W (m1 fLenSet A)) :=
  PE.im (pe_lenSetN hc hg hm hg2 hm2 ha na) fun _ _ _ y => at1 (s_lenSet hK) y
end
end Vm

set_option Elab.async false
set_option linter.all false
set_option maxRecDepth 100000
set_option maxHeartbeats 4100000
namespace Vm
open L2 PyProof.Rows PySem PySem.Spec
/-! ### dicts with texts for keys: made by a display, read, never changed -/
abbrev keyed (gs : List (Str × V)) : List (Key × V) := gs.map fun p => (Sum.inr p.1, p.2)
theorem valV_keyed : ∀ (gs : List (Str × V)) (z : Str), valV (keyed gs) (Sum.inr z) = gs.lookup z
  | [], _ => rfl
  | (k, v) :: gs, z => by
    by_cases e : z = k
    · subst e
      simp [keyed, valV, List.find?, List.lookup]
    · have e1 : (z == k) = false := beq_eq_false_iff_ne.mpr e
      have e2 : ¬ k = z := fun h => e h.symm
      have ih := valV_keyed gs z
      simp only [keyed, valV, List.map_cons, List.find?, List.lookup, e1] at ih ⊢
      simpa [e2] using ih
theorem merge_new : ∀ (more acc : List (Key × V)), ((acc ++ more).map (·.1)).Nodup → mergeK acc more = acc ++ more
  | [], acc, _ => by simp [mergeK]
  | p :: more, acc, nd => by
    have no : (acc.any fun q => decide (q.1 = p.1)) = false := by
      rw [List.any_eq_false]
      intro q hq h
      have h := of_decide_eq_true h
      rw [List.map_append, List.map_cons, List.nodup_append] at nd
      exact nd.2.2 q.1 (List.mem_map.mpr ⟨q, hq, rfl⟩) p.1 (.head _) h
    have e : putK acc p.1 p.2 = acc ++ [p] := by
      unfold putK
      rw [no, if_neg Bool.false_ne_true]
    have ih := merge_new more (acc ++ [p]) (by simpa using nd)
    show mergeK (putK acc p.1 p.2) more = _
    rw [e, ih, List.append_assoc]
    rfl
def keysB : List Str → Bool
  | [] => true
  | k :: r => !r.contains k && keysB r
theorem keysB_ok : ∀ {ks : List Str}, keysB ks = true → ks.Nodup
  | [], _ => .nil
  | k :: r, h => by
    have q := Bool.and_eq_true_iff.mp (show (!r.contains k && keysB r) = true from h)
    exact List.nodup_cons.mpr ⟨fun m => by simp [m] at q, keysB_ok q.2⟩
/-- the mirror of a display -/
def mDisp (ks : List Str) (L : Ml) : Me := fun s h => match L s h with
  | .ok us h1 => if us.all pureU && (Nat.beq ks.length us.length && (keysB ks && Nat.ble ks.length 15)) then .ok (.obj dctNo (ks.zip us)) h1 else .stuck
  | _ => .stuck
section
variable {g : Gc} {W : WX} {σ : L2.St} {H : Hp} {Q : VK} {ks : List Str} {L : Ml}
theorem zip_rof {ρ ρ' : Wd} (e : Hle ρ.fz ρ'.fz) : ∀ (ks : List Str) {us : List U} {vs : List V}, Rls g ρ us vs → us.all pureU = true → Rof g.K g.cl ρ'.fz (ks.zip us) (ks.zip vs)
  | [], _, _, _, _ => .nil
  | _ :: _, [], _, .nil, _ => .nil
  | k :: ks, _ :: _, _, .cons r t, h => by
    rw [List.all_cons, Bool.and_eq_true] at h; exact .cons (Ro.hle e (r.ro h.1)) (zip_rof e ks t h.2)
theorem disp_read (q : T g W (mDisp ks L) σ H Q) {p : Addr} (hp : H p = none) : TL g W L σ (upd H p (.dK [])) fun vs H1 => H1 p = some (.dK []) ∧ vs.length = ks.length ∧ ks.Nodup ∧ ks.length ≤ 15 ∧ Q (.ref p) (upd H1 p (.dK (keyed (ks.zip vs)))) := by
  obtain ⟨ρ, s, h, rs, cs, post⟩ := q
  have aw0 := cs.out hp
  have aw : Away ρ h (upd H p (.dK [])) p := ⟨aw0.fz, aw0.lk, aw0.as⟩
  have c1 : Cs g ρ h (upd H p (.dK [])) := cs.skip hp
  have c2 := c1.hold aw upd_same
  have lx : Wd.Lx ρ (ρ.hold p (.dK [])) := ⟨List.prefix_refl _, fun _ _ z => z⟩
  refine ⟨ρ.hold p (.dK []), s, h, Paired.mapP rs fun x y r => ?_, c2, ?_⟩
  · cases x with
    | none => trivial
    | some u => cases y with
      | none => exact r
      | some v => exact Rl.mx lx r
  unfold mDisp at post
  cases eL : L s h with
  | ex c f h1 => rw [eL] at post; exact post.elim
  | stuck => rw [eL] at post; exact post.elim
  | ok us h1 =>
    rw [eL] at post
    intro ρ2 vs H2 e2 c3 r2
    simp only at post
    cases ec : (us.all pureU && (Nat.beq ks.length us.length && (keysB ks && Nat.ble ks.length 15))) with
    | false => rw [ec, if_neg Bool.false_ne_true] at post; exact post.elim
    | true =>
      rw [ec, if_pos rfl] at post
      rw [Bool.and_eq_true, Bool.and_eq_true, Bool.and_eq_true, Nat.ble_eq] at ec
      obtain ⟨pu, len, nd, few⟩ := ec
      have len := Nat.eq_of_beq_eq_true len
      have eD := e2.same c3
      have away := e2.away aw c3
      have c4 : Cs g ⟨ρ2.as, ρ2.fz, ρ.lk⟩ h1 (upd H2 p (.dK (keyed (ks.zip vs)))) := c3.freed e2 aw c1 ⟨fun _ _ z => (by rw [eD] at z; cases z), fun _ z => (by rw [eD] at z; cases z), fun _ z => (by rw [eD] at z; cases z)⟩ (.dK (keyed (ks.zip vs)))
      obtain ⟨c5, le⟩ := c4.frzOld (D := p) (o := .dK (keyed (ks.zip vs))) ⟨away.fz, away.lk, away.as⟩ upd_same (fun _ _ z => by cases z)
      refine ⟨eD, by rw [← Paired.length r2, len], keysB_ok nd, few, post _ (.ref p) _ ((e2.freed aw).trans le) c5 ?_⟩
      exact Ro.dct (gs := ks.zip vs) upd_same (zip_rof (ρ := ⟨ρ2.as, ρ2.fz, ρ.lk⟩) le.fz ks (Rls.mx ⟨List.prefix_refl _, fun _ _ z => z⟩ r2) pu)
end
/-- the pairs of a display, and how they are read -/
def DPs (X : Cx) (g : Gc) (W : WX) (pos : Pos) (keys : List (Option Expr)) (values : List Expr) (ks : List Str) (L : Ml) : Prop :=
  ∃ trs, PPs X pos keys values trs ∧ ∀ σ H Q, TL g W L σ H (fun vs H1 => Q ((ks.map V.str).zip vs) H1) → tPairs trs σ H Q
section
variable {X : Cx} {g : Gc} {W : WX} {A B : Me} {e v i : Expr} {pos kp : Pos} {keys : List (Option Expr)} {values : List Expr} {ks : List Str} {L : Ml}
theorem d_nil : DPs X g W pos [] [] [] lN := ⟨[], pps_nil, fun σ H Q ⟨ρ, s, h, rs, cs, p⟩ => p ρ [] H (Wd.refl _) cs .nil⟩
theorem d_cons {k : Str} {j : Nat} (hv : PE X v (T g W A)) (r : DPs X g W pos keys values ks L) : DPs X g W pos (some (.Constant (.str k) j kp) :: keys) (v :: values) (k :: ks) (lC A L) := by
  obtain ⟨trs, pp, rd⟩ := r
  refine ⟨_, pps_cons pe_str hv pp, fun σ H Q q => ?_⟩
  show T g W A σ H fun y H1 => tPairs trs σ H1 fun ps H2 => Q ((.str k, y) :: ps) H2
  refine At.seq (rel := Rl g) q fun ρ1 x s h1 y H1 hs1 c1 r1 p1 => rd _ _ _ ⟨ρ1, s, h1, hs1, c1, (Post.cut (rel := Rls g) p1).imp fun vs H2 ⟨ρ2, xs, h2, e2, c2, r2, p2⟩ => ?_⟩
  exact Post.here (rel := Rls g) p2 c2 (.cons (Rl.mono e2 r1) r2)
theorem zip_keyed : ∀ (ks : List Str) (vs : List V), (ks.map V.str).zip vs = (keyed (ks.zip vs)).map fun p => (kV p.1, p.2)
  | [], _ => rfl
  | _ :: _, [] => rfl
  | k :: ks, v :: vs => by
    show (V.str k, v) :: (ks.map V.str).zip vs = (V.str k, v) :: (keyed (ks.zip vs)).map fun p => (kV p.1, p.2)
    rw [zip_keyed ks vs]
theorem e_disp (d : DPs X g W pos keys values ks L) (hall : keys.all (·.isSome) = true := by rfl) (hl : keys.length = values.length := by rfl) (h0 : keys ≠ [] := by exact fun z => nomatch z) (h15 : keys.length ≤ 15 := by decide) : PE X (.Dict keys values pos) (T g W (mDisp ks L)) := by
  obtain ⟨trs, pp, rd⟩ := d
  refine PE.im (pe_disp pp hall hl h0 h15) fun σ H Q q p hp => rd σ _ _ ?_
  obtain ⟨ρ, s, h, rs, cs, post⟩ := disp_read q hp
  refine ⟨ρ, s, h, rs, cs, post.imp fun vs H1 ⟨eD, len, nd, few, y⟩ => ⟨eD, keyed (ks.zip vs), zip_keyed ks vs, ?_, ?_⟩⟩
  · rw [List.length_map, List.length_zip]
    omega
  · have keys_ : ∀ (ks : List Str) (vs : List V), ks.Nodup → (((keyed (ks.zip vs)).map (·.1)).Nodup) := fun ks => by
      induction ks with
      | nil => exact fun _ _ => .nil
      | cons k ks ih =>
        intro vs nd
        cases vs with
        | nil => exact .nil
        | cons v vs =>
          obtain ⟨n1, n2⟩ := List.nodup_cons.mp nd; refine List.nodup_cons.mpr ⟨fun m => n1 ?_, ih vs n2⟩
          obtain ⟨p, hp, e⟩ := List.mem_map.mp m; obtain ⟨q, hq, rfl⟩ := List.mem_map.mp hp
          cases e
          exact (List.of_mem_zip hq).1
    rw [merge_new _ [] (by simpa using keys_ ks vs nd), List.nil_append]
    exact y
/-- d[x] -/
def fDGet : F2 := fun x y h => match x, y with
  | .obj c fs, .str z => if c = dctNo then (match fs.lookup z with
    | some u => .ok u h
    | none => .stuck) else .stuck
  | _, _ => .stuck
def rDGet : R2 := fun x y H Q => ∃ a v, x = .ref a ∧ DGet H a y (some v) ∧ Q v H
theorem s_dget : S2 g fDGet rDGet := fun E ρ x y vx vy h H Q rx ry cs p => by
  unfold fDGet at p
  split at p
  · rename_i c fs z
    by_cases hc : c = dctNo
    · rw [if_pos hc] at p
      cases el : fs.lookup z with
      | none => rw [el] at p; exact p.elim
      | some u =>
        rw [el] at p
        have rx : Ro g.K g.cl ρ.fz (.obj c fs) vx := rx
        cases ry
        cases rx with
        | obj n e rf => exact absurd hc n
        | dct e rf =>
          rename_i a gs
          obtain ⟨v, ev, rv⟩ := Rf.look rf.rf el
          refine ⟨a, v, rfl, ?_, Post.here (rel := Rl g) p cs rv⟩
          have := DGet.k (k := Sum.inr z) (cs.fzH _ _ e)
          rw [valV_keyed, ev] at this
          exact this
    · rw [if_neg hc] at p
      exact p.elim
  · exact p.elim
end
end Vm

set_option Elab.async false
set_option linter.all false
set_option maxRecDepth 100000
set_option maxHeartbeats 4100000
namespace Vm
open L2 PyProof.Rows PySem PySem.Spec
/-! ### comprehensions with two walks, frozen -/
def loop2F (t : Gt) (q : Mb) (m1 : Mw) (t1 : Gt) (q1 : Mb) (e : Me) (vs1 : List Nat) (s : Sl) : List U → Mh → R (List U)
  | [], h => .ok [] h
  | x :: xs, h => match t x s h with
    | some s1 => match q s1 h with
      | .ok true h2 => match m1 s1 h2 with
        | .ok us h3 => match loopCF t1 q1 e (wipeM s1 vs1) us h3 with
          | .ok ys h4 => match loop2F t q m1 t1 q1 e vs1 s xs h4 with
            | .ok zs h5 => .ok (ys ++ zs) h5
            | _ => .stuck
          | _ => .stuck
        | _ => .stuck
      | .ok false h2 => loop2F t q m1 t1 q1 e vs1 s xs h2
      | _ => .stuck
    | none => .stuck
section
variable (t : Gt) (q : Mb) (m1 : Mw) (t1 : Gt) (q1 : Mb) (e : Me) (vs1 : List Nat) (s : Sl)
def rest2 (acc us : List U) (h : Mh) : R U := match loop2F t q m1 t1 q1 e vs1 s us h with
  | .ok zs h2 => if decide ((acc ++ zs).length < lim) then newL (acc ++ zs) h2 else .stuck
  | _ => .stuck
def rest1 (s1 : Sl) (acc us1 us : List U) (h : Mh) : R U := match loopCF t1 q1 e s1 us1 h with
  | .ok ys h2 => rest2 t q m1 t1 q1 e vs1 s (acc ++ ys) us h2
  | _ => .stuck
end
def mLc2F (m : Mw) (t : Gt) (q : Mb) (m1 : Mw) (t1 : Gt) (q1 : Mb) (e : Me) (vs vs1 : List Nat) : Me := fun s h => (m s h).bind fun us h1 => rest2 t q m1 t1 q1 e vs1 (wipeM s vs) [] us h1
section
variable {t : Gt} {q : Mb} {m1 : Mw} {t1 : Gt} {q1 : Mb} {e : Me} {vs1 : List Nat} {s : Sl}
theorem rest2_in {s1 : Sl} {acc us us1 : List U} {x : U} {h h2 h3 : Mh} (et : t x s h = some s1) (eq : q s1 h = .ok true h2) (em : m1 s1 h2 = .ok us1 h3) : rest2 t q m1 t1 q1 e vs1 s acc (x :: us) h = rest1 t q m1 t1 q1 e vs1 s (wipeM s1 vs1) acc us1 us h3 := by
  unfold rest2 rest1 loop2F
  simp only [et, eq, em]
  cases loopCF t1 q1 e (wipeM s1 vs1) us1 h3 with
  | ok ys h4 =>
    simp only [rest2]
    cases loop2F t q m1 t1 q1 e vs1 s us h4 with
    | ok zs h5 => simp only [List.append_assoc]
    | ex c f h4 => rfl
    | stuck => rfl
  | ex c f h4 => rfl
  | stuck => rfl
theorem rest2_skip {s1 : Sl} {acc us : List U} {x : U} {h h2 : Mh} (et : t x s h = some s1) (eq : q s1 h = .ok false h2) : rest2 t q m1 t1 q1 e vs1 s acc (x :: us) h = rest2 t q m1 t1 q1 e vs1 s acc us h2 := by
  unfold rest2
  rw [loop2F, et]
  simp only [eq]
theorem rest1_nil {s1 : Sl} {acc us : List U} {h : Mh} : rest1 t q m1 t1 q1 e vs1 s s1 acc [] us h = rest2 t q m1 t1 q1 e vs1 s acc us h := by
  unfold rest1 loopCF
  simp only [List.append_nil]
theorem rest1_cons {s1 s2 : Sl} {acc us us1 : List U} {x y : U} {h h2 h3 : Mh} (et : t1 x s1 h = some s2) (eq : q1 s2 h = .ok true h2) (ee : e s2 h2 = .ok y h3) : rest1 t q m1 t1 q1 e vs1 s s1 acc (x :: us1) us h = rest1 t q m1 t1 q1 e vs1 s s1 (acc ++ [y]) us1 us h3 := by
  unfold rest1
  rw [loopCF_cons et eq ee]
  cases loopCF t1 q1 e s1 us1 h3 with
  | ok ys h4 => simp only [List.append_assoc, List.singleton_append]
  | ex c f h4 => rfl
  | stuck => rfl
theorem rest1_skip {s1 s2 : Sl} {acc us us1 : List U} {x : U} {h h2 : Mh} (et : t1 x s1 h = some s2) (eq : q1 s2 h = .ok false h2) : rest1 t q m1 t1 q1 e vs1 s s1 acc (x :: us1) us h = rest1 t q m1 t1 q1 e vs1 s s1 acc us1 us h2 := by
  unfold rest1
  rw [loopCF, et]
  simp only [eq]
variable {g : Gc} {W : WX}
theorem rest2_few {ρ : Wd} {acc us : List U} {h : Mh} {Q : VK} {σ : L2.St} (p : Post g (Rl g) ρ (rest2 t q m1 t1 q1 e vs1 s acc us h) Q (WE W σ)) : acc.length < lim := by
  unfold rest2 at p
  cases el : loop2F t q m1 t1 q1 e vs1 s us h with
  | ok zs h2 =>
    rw [el] at p
    simp only at p
    by_cases c : (acc ++ zs).length < lim
    · rw [List.length_append] at c
      omega
    · rw [if_neg (by simpa using c)] at p
      exact p.elim
  | ex c f h2 => rw [el] at p; exact p.elim
  | stuck => rw [el] at p; exact p.elim
theorem rest1_few {ρ : Wd} {s1 : Sl} {acc us us1 : List U} {h : Mh} {Q : VK} {σ : L2.St} (p : Post g (Rl g) ρ (rest1 t q m1 t1 q1 e vs1 s s1 acc us1 us h) Q (WE W σ)) : acc.length < lim := by
  unfold rest1 at p
  cases el : loopCF t1 q1 e s1 us1 h with
  | ok zs h2 =>
    rw [el] at p
    have := rest2_few p
    rw [List.length_append] at this
    omega
  | ex c f h2 => rw [el] at p; exact p.elim
  | stuck => rw [el] at p; exact p.elim
theorem same_upd {H : Hp} {D : Addr} {o : HO} (e : H D = some o) : upd H D o = H := by
  funext b
  by_cases z : b = D
  · rw [z, upd_same, e]
  · rw [upd_ne z]
theorem Rsl.held {ρ : Wd} {s : Sl} {σ : L2.St} {D : Addr} {o : HO} (ws : Rsl g ρ s σ) : Rsl g (ρ.hold D o) s σ := Paired.mapP ws fun x y r => by
  cases x with
  | none => trivial
  | some u => cases y with
    | none => exact r
    | some v => exact Rl.mx ⟨List.prefix_refl _, fun _ _ z => z⟩ r
theorem lc2_readF {m : Mw} {is is1 vs : List Nat} (hv : ∀ i ∈ is, i ∈ vs) (hv1 : ∀ i ∈ is1, i ∈ vs1) {σ : L2.St} {H : Hp} {Q : VK} (z : T g W (mLc2F m t q m1 t1 q1 e vs vs1) σ H Q) :
    tLc2 (TIt g W (toMi m)) (TGm g is t) (TB g W0 q) (TIt g W0 (toMi m1)) (TGm g is1 t1) (TB g W0 q1) (T g W0 e) vs vs1 σ H Q := by
  obtain ⟨ρ0, s, h0, hs0, cs0, p0⟩ := z
  refine ⟨ρ0, s, h0, hs0, cs0, ?_⟩
  unfold mLc2F at p0
  unfold toMi
  cases em : m s h0 with
  | ex c f h1 => rw [em] at p0; exact p0
  | stuck => rw [em] at p0; exact p0.elim
  | ok us h1 =>
  rw [em] at p0
  simp only [R.bind] at p0 ⊢
  intro ρ1 J H1 e1 c1 k1
  have hs1 : Rsl g ρ1 s σ := Rsl.mono e1 hs0
  intro D hD
  have cD : Cs g ρ1 h1 (upd H1 D (.lst [])) := c1.skip hD
  have aD : Away ρ1 h1 (upd H1 D (.lst [])) D := ⟨(c1.out hD).fz, (c1.out hD).lk, (c1.out hD).as⟩
  refine ⟨fun i n H => ∃ ρ h acc accv, Wd.Le ρ1 ρ ∧ Cs g ρ h H ∧ Away ρ h H D ∧ H D = some (.lst accv) ∧ Rls g ρ acc accv ∧ i ≤ us.length ∧ n = us.length - i ∧ Post g (Rl g) ρ (rest2 t q m1 t1 q1 e vs1 (wipeM s vs) acc (us.drop i) h) Q (WE W σ),
    ⟨us.length, ρ1, h1, [], [], Wd.refl _, cD, aD, upd_same, .nil, Nat.zero_le _, rfl, Post.mono e1 p0⟩, ?_⟩
  rintro i n H ⟨ρ, h, acc, accv, e2, cs, aw, eD, ra, li, rfl, p⟩
  have ws : Rsl g ρ (wipeM s vs) (wipe σ vs) := Rsl.mono e2 (Rsl.wipe hs1 vs)
  have cL := cs.hold aw eD
  have lxL : Wd.Lx ρ (ρ.hold D (.lst accv)) := ⟨List.prefix_refl _, fun _ _ q => q⟩
  have kk := k1 (ρ.hold D (.lst accv)) i h H (e2.lx.trans lxL) cL
  have nfD : ∀ {H' : Hp} {xs : List V}, H' D = some (.lst xs) → (∀ o w, H' D ≠ some (.frz o w)) ∧ (∀ φ : Heap → Prop, H' D ≠ some (HO.ext φ)) ∧ ∀ gs, H' D ≠ some (.xd gs) := fun e => nfL e
  cases ei : us[i]? with
  | none =>
    have hl := List.getElem?_eq_none_iff.mp ei
    unfold itF at kk
    rw [if_pos li, ei] at kk
    obtain ⟨_, st⟩ := kk
    refine .inl ⟨st, ?_⟩
    have few := rest2_few p
    rw [List.drop_eq_nil_of_le hl] at p
    have p : Post g (Rl g) ρ (if decide ((acc ++ []).length < lim) then newL (acc ++ []) h else .stuck) Q (WE W σ) := p
    rw [List.append_nil, if_pos (decide_eq_true few)] at p
    unfold newL at p
    cases ep : pdsOf acc with
    | none => rw [ep] at p; exact p.elim
    | some ds =>
      rw [ep] at p
      obtain ⟨c3, le3⟩ := cs.frzOld aw eD (fun _ _ z => by cases z)
      have same : (ρ.frz D (.lst accv)).fz D = some (.lst accv) := upd_same
      exact p (ρ.frz D (.lst accv)) (.ref D) H le3 c3 ⟨rfl, .lst same (DqAll.hle le3.fz _ _ (pds_ok ra ep))⟩
  | some x =>
    obtain ⟨hl, hx⟩ := List.getElem?_eq_some_iff.mp ei
    unfold itF at kk
    rw [if_pos li, ei] at kk
    obtain ⟨go, yl⟩ := kk
    rw [List.drop_eq_getElem_cons hl, hx] at p
    refine .inr ⟨go, fun H' => ∃ ρ h acc accv, Wd.Le ρ1 ρ ∧ Cs g ρ h H' ∧ Away ρ h H' D ∧ H' D = some (.lst accv) ∧ Rls g ρ acc accv ∧ i + 1 ≤ us.length ∧ Post g (Rl g) ρ (rest2 t q m1 t1 q1 e vs1 (wipeM s vs) acc (us.drop (i + 1)) h) Q (WE W σ),
      fun H' ⟨r1, r2, r3, r4, r5, r6, r7, r8, r9, r10, r12⟩ => ⟨us.length - (i + 1), by omega, r1, r2, r3, r4, r5, r6, r7, r8, r9, r10, rfl, r12⟩, fun v H' y => ?_⟩
    obtain ⟨ρ2, f2, c2, r2⟩ := yl v H' y
    refine ⟨ρ2, x, wipeM s vs, h, r2, Rsl.mono f2 (Rsl.held ws), c2, ?_⟩
    cases et : t x (wipeM s vs) h with
    | none =>
      unfold rest2 loop2F at p
      rw [et] at p
      exact p.elim
    | some s1 =>
      refine fun σ1 hs1 hw1 => ⟨(hw1 vs hv).trans wipe_self, ρ2, s1, h, hs1, c2, ?_⟩
      cases eq : q s1 h with
      | ex c f h3 =>
        unfold rest2 loop2F at p
        rw [et] at p
        simp only [eq] at p
        exact p.elim
      | stuck =>
        unfold rest2 loop2F at p
        rw [et] at p
        simp only [eq] at p
        exact p.elim
      | ok k h3 =>
        intro ρ3 k' H3 f3 c3 r3
        cases r3
        have f23 := f2.trans f3
        cases k with
        | false =>
          rw [if_neg Bool.false_ne_true]; rw [rest2_skip et eq] at p
          have eD3 := f23.same c3
          have ff := f23.freed aw
          have c3' := c3.freed f23 aw cs (nfD eD3) (.lst accv)
          rw [same_upd eD3] at c3'
          exact ⟨_, h3, acc, accv, e2.trans ff, c3', f23.away aw c3, eD3, Rls.mono ff ra, hl, Post.mono ff p⟩
        | true =>
          rw [if_pos rfl]
          refine ⟨ρ3, s1, h3, Rsl.mono f3 hs1, c3, ?_⟩
          cases em1 : m1 s1 h3 with
          | ex c f h4 =>
            unfold rest2 loop2F at p
            rw [et] at p
            simp only [eq, em1] at p
            exact p.elim
          | stuck =>
            unfold rest2 loop2F at p
            rw [et] at p
            simp only [eq, em1] at p
            exact p.elim
          | ok us1 h4 =>
            rw [rest2_in et eq em1] at p
            simp only [R.bind, em1]
            intro ρ4 J1 H4 f4 c4 k4
            have hs4 : Rsl g ρ4 s1 σ1 := Rsl.mono (f3.trans f4) hs1
            have f24 := f23.trans f4
            have eD4 := f24.same c4
            have ff := f24.freed aw
            have c4' := c4.freed f24 aw cs (nfD eD4) (.lst accv)
            rw [same_upd eD4] at c4'
            refine ⟨fun j n H => ∃ ρ' h acc accv, Wd.Le ⟨ρ4.as, ρ4.fz, ρ.lk⟩ ρ' ∧ Cs g ρ' h H ∧ Away ρ' h H D ∧ H D = some (.lst accv) ∧ Rls g ρ' acc accv ∧ j ≤ us1.length ∧ n = us1.length - j ∧ Post g (Rl g) ρ' (rest1 t q m1 t1 q1 e vs1 (wipeM s vs) (wipeM s1 vs1) acc (us1.drop j) (us.drop (i + 1)) h) Q (WE W σ),
              ⟨us1.length, _, h4, acc, accv, Wd.refl _, c4', f24.away aw c4, eD4, Rls.mono ff ra, Nat.zero_le _, rfl, Post.mono ff p⟩, ?_⟩
            rintro j n H5 ⟨ρ5, h5, acc5, accv5, e5, c5, aw5, eD5, ra5, lj, rfl, p5⟩
            have lx4 : Wd.Lx ρ4 (⟨ρ4.as, ρ4.fz, ρ.lk⟩ : Wd) := ⟨List.prefix_refl _, fun _ _ q => q⟩
            have cL5 := c5.hold aw5 eD5
            have lx5 : Wd.Lx ρ5 (ρ5.hold D (.lst accv5)) := ⟨List.prefix_refl _, fun _ _ q => q⟩
            have kj := k4 (ρ5.hold D (.lst accv5)) j h5 H5 ((lx4.trans e5.lx).trans lx5) cL5
            cases ej : us1[j]? with
            | none =>
              have hl5 := List.getElem?_eq_none_iff.mp ej
              unfold itF at kj
              rw [if_pos lj, ej] at kj
              obtain ⟨_, st⟩ := kj
              rw [List.drop_eq_nil_of_le hl5, rest1_nil] at p5
              exact .inl ⟨st, ρ5, h5, acc5, accv5, (e2.trans ff).trans e5, c5, aw5, eD5, ra5, hl, p5⟩
            | some x1 =>
              obtain ⟨hl5, hx5⟩ := List.getElem?_eq_some_iff.mp ej
              unfold itF at kj
              rw [if_pos lj, ej] at kj
              obtain ⟨go5, yl5⟩ := kj
              rw [List.drop_eq_getElem_cons hl5, hx5] at p5
              refine .inr ⟨go5, fun H' => ∃ ρ' h acc accv, Wd.Le ⟨ρ4.as, ρ4.fz, ρ.lk⟩ ρ' ∧ Cs g ρ' h H' ∧ Away ρ' h H' D ∧ H' D = some (.lst accv) ∧ Rls g ρ' acc accv ∧ j + 1 ≤ us1.length ∧ Post g (Rl g) ρ' (rest1 t q m1 t1 q1 e vs1 (wipeM s vs) (wipeM s1 vs1) acc (us1.drop (j + 1)) (us.drop (i + 1)) h) Q (WE W σ),
                fun H' ⟨r1, r2, r3, r4, r5, r6, r7, r8, r9, r10, r12⟩ => ⟨us1.length - (j + 1), by omega, r1, r2, r3, r4, r5, r6, r7, r8, r9, r10, rfl, r12⟩, fun v5 H' y5 => ?_⟩
              obtain ⟨ρ6, f6, c6, r6⟩ := yl5 v5 H' y5
              have ws5 : Rsl g ρ5 (wipeM s1 vs1) (wipe σ1 vs1) := Rsl.wipe (Paired.mapP hs4 fun x y r => by
                cases x with
                | none => trivial
                | some u => cases y with
                  | none => exact r
                  | some v => exact Rl.mx (lx4.trans e5.lx) r) vs1
              refine ⟨ρ6, x1, wipeM s1 vs1, h5, r6, Rsl.mono f6 (Rsl.held ws5), c6, ?_⟩
              cases et1 : t1 x1 (wipeM s1 vs1) h5 with
              | none =>
                unfold rest1 loopCF at p5
                rw [et1] at p5
                exact p5.elim
              | some s2 =>
                refine fun σ2 hs2 hw2 => ⟨(hw2 vs1 hv1).trans wipe_self, ρ6, s2, h5, hs2, c6, ?_⟩
                cases eq1 : q1 s2 h5 with
                | ex c f h3 =>
                  unfold rest1 loopCF at p5
                  rw [et1] at p5
                  simp only [eq1] at p5
                  exact p5.elim
                | stuck =>
                  unfold rest1 loopCF at p5
                  rw [et1] at p5
                  simp only [eq1] at p5
                  exact p5.elim
                | ok k7 h7 =>
                  intro ρ7 k' H7 f7 c7 r7
                  cases r7
                  have f67 := f6.trans f7
                  cases k7 with
                  | false =>
                    rw [if_neg Bool.false_ne_true]; rw [rest1_skip et1 eq1] at p5
                    have eD7 := f67.same c7
                    have f8 := f67.freed aw5
                    have c7' := c7.freed f67 aw5 c5 (nfD eD7) (.lst accv5)
                    rw [same_upd eD7] at c7'
                    exact ⟨_, h7, acc5, accv5, e5.trans f8, c7', f67.away aw5 c7, eD7, Rls.mono f8 ra5, hl5, Post.mono f8 p5⟩
                  | true =>
                    rw [if_pos rfl]
                    refine ⟨ρ7, s2, h7, Rsl.mono f7 hs2, c7, ?_⟩
                    cases ee : e s2 h7 with
                    | ex c f h4 =>
                      unfold rest1 loopCF at p5
                      rw [et1] at p5
                      simp only [eq1, ee] at p5
                      exact p5.elim
                    | stuck =>
                      unfold rest1 loopCF at p5
                      rw [et1] at p5
                      simp only [eq1, ee] at p5
                      exact p5.elim
                    | ok y h8 =>
                      rw [rest1_cons et1 eq1 ee] at p5
                      have few := rest1_few p5
                      rw [List.length_append] at few
                      intro ρ8 yv H8 f8 c8 r8
                      have f68 := f67.trans f8
                      have eD8 := f68.same c8
                      have f9 := f68.freed aw5
                      have c8' := c8.freed f68 aw5 c5 (nfD eD8) (.lst (accv5 ++ [yv]))
                      have aw8 := f68.away aw5 c8
                      refine ⟨accv5, eD8, by rw [← Paired.length ra5]; exact lim_line (by unfold lim at few; omega), ⟨ρ8.as, ρ8.fz, ρ5.lk⟩, h8, acc5 ++ [y], accv5 ++ [yv], e5.trans f9, c8', ⟨aw8.fz, aw8.lk, aw8.as⟩, upd_same, Paired.app (Rls.mono f9 ra5) (.cons (Rl.mx ⟨List.prefix_refl _, fun _ _ q => q⟩ r8) .nil), hl5, Post.mono f9 p5⟩
theorem e_lc2F {X : Cx} {pos : Pos} {elt tg iter tg1 iter1 : Expr} {ifs ifs1 : List Expr} {scope : Scope} {own : List (Str × Nat)} {m : Mw} {is is1 : List Nat} (hc : X.calm = true) (hN : X.N.Nodup) (hi : PI X tg iter (TIt g W (toMi m))) (ok : BlkOk X.N X.env.scope scope own) (hvs : ∀ i ∈ vs1, i ∈ own.map (·.2))
    (hg : ∀ (s : Shared) (H : Hp) (C : Addr) (cl : List (Str × Addr)) (fp : List Addr), PG (X.blk s H scope (compEnvC scope cl C X.env) fp) tg (TGm g is t)) (ht : ∀ (s : Shared) (H : Hp) (C : Addr) (cl : List (Str × Addr)) (fp : List Addr), PTs (X.blk s H scope (compEnvC scope cl C X.env) fp) ifs (TB g W0 q))
    (hi1 : ∀ (s : Shared) (H : Hp) (C : Addr) (cl : List (Str × Addr)) (fp : List Addr), PI (X.blk s H scope (compEnvC scope cl C X.env) fp) tg1 iter1 (TIt g W0 (toMi m1)))
    (hg1 : ∀ (s : Shared) (H : Hp) (C : Addr) (cl : List (Str × Addr)) (fp : List Addr), PG (X.blk s H scope (compEnvC scope cl C X.env) fp) tg1 (TGm g is1 t1)) (ht1 : ∀ (s : Shared) (H : Hp) (C : Addr) (cl : List (Str × Addr)) (fp : List Addr), PTs (X.blk s H scope (compEnvC scope cl C X.env) fp) ifs1 (TB g W0 q1))
    (he : ∀ (s : Shared) (H : Hp) (C : Addr) (cl : List (Str × Addr)) (fp : List Addr), PE (X.blk s H scope (compEnvC scope cl C X.env) fp) elt (T g W0 e)) (hv : ∀ i ∈ is, i ∈ own.map (·.2)) (hv1 : ∀ i ∈ is1, i ∈ vs1) (hs : ∀ x, foldedSetIterable iter X.env x = pure x := by intro _; rfl) (hs1 : ∀ env x, foldedSetIterable iter1 env x = pure x := by intro _ _; rfl) :
    PE X (.ListComp elt [⟨tg, iter, ifs, 0⟩, ⟨tg1, iter1, ifs1, 0⟩] scope pos) (T g W (mLc2F m t q m1 t1 q1 e (own.map (·.2)) vs1)) :=
  PE.im (pe_lc2 hc hN hi ok hvs hg ht hi1 hg1 ht1 he hs hs1) fun σ H Q z => lc2_readF hv hv1 z
theorem s_setLc2F {X : Cx} {i : Nat} {y : Str} {py pos spos : Pos} {elt tg iter tg1 iter1 : Expr} {ifs ifs1 : List Expr} {scope : Scope} {own : List (Str × Nat)} {m : Mw} {is is1 : List Nat} (hc : X.calm = true) (hN : X.N.Nodup) (hy : X.N[i]? = some y) (hyl : X.env.scope.names.lookup y = some .local)
    (hsw : swapsWith (.ListComp elt [⟨tg, iter, ifs, 0⟩, ⟨tg1, iter1, ifs1, 0⟩] scope pos) (some (.Name y py)) spos.line X.env = pure true) (hi : PI X tg iter (TIt g W (toMi m))) (ok : BlkOk X.N X.env.scope scope own) (hvs : ∀ i ∈ vs1, i ∈ own.map (·.2))
    (hg : ∀ (s : Shared) (H : Hp) (C : Addr) (cl : List (Str × Addr)) (fp : List Addr), PG (X.blk s H scope (compEnvC scope cl C X.env) fp) tg (TGm g is t)) (ht : ∀ (s : Shared) (H : Hp) (C : Addr) (cl : List (Str × Addr)) (fp : List Addr), PTs (X.blk s H scope (compEnvC scope cl C X.env) fp) ifs (TB g W0 q))
    (hi1 : ∀ (s : Shared) (H : Hp) (C : Addr) (cl : List (Str × Addr)) (fp : List Addr), PI (X.blk s H scope (compEnvC scope cl C X.env) fp) tg1 iter1 (TIt g W0 (toMi m1)))
    (hg1 : ∀ (s : Shared) (H : Hp) (C : Addr) (cl : List (Str × Addr)) (fp : List Addr), PG (X.blk s H scope (compEnvC scope cl C X.env) fp) tg1 (TGm g is1 t1)) (ht1 : ∀ (s : Shared) (H : Hp) (C : Addr) (cl : List (Str × Addr)) (fp : List Addr), PTs (X.blk s H scope (compEnvC scope cl C X.env) fp) ifs1 (TB g W0 q1))
    (he : ∀ (s : Shared) (H : Hp) (C : Addr) (cl : List (Str × Addr)) (fp : List Addr), PE (X.blk s H scope (compEnvC scope cl C X.env) fp) elt (T g W0 e)) (hv : ∀ i ∈ is, i ∈ own.map (·.2)) (hv1 : ∀ i ∈ is1, i ∈ vs1) (hs : ∀ x, foldedSetIterable iter X.env x = pure x := by intro _; rfl) (hs1 : ∀ env x, foldedSetIterable iter1 env x = pure x := by intro _ _; rfl) :
    PS X (.Assign [.Name y py] (.ListComp elt [⟨tg, iter, ifs, 0⟩, ⟨tg1, iter1, ifs1, 0⟩] scope pos) spos) (TSm g W (sAsg (mLc2F m t q m1 t1 q1 e (own.map (·.2)) vs1) (gtN i))) :=
  PS.im (ps_setLc2 hc hN hy hyl hsw hi ok hvs hg ht hi1 hg1 ht1 he hs hs1) fun D σ H z => lc2_readF hv hv1 (AtS.seqE (rel := Rl g) (k := fun u s h1 => .nx (s.set i (some u)) h1) z fun ρ1 u s h1 v H1 hs c1 r1 p =>
    p ρ1 _ H1 (Wd.refl _) c1 (Paired.set (F := Rol g ρ1) (x := some u) (y := some v) r1 i hs))
end
end Vm

set_option Elab.async false
set_option linter.all false
set_option maxRecDepth 100000
set_option maxHeartbeats 4100000
namespace Vm
open L2 PyProof.Rows PySem PySem.Spec GenW
/-! ### a walk within a generator -/
section
variable {prog : Program} {w : World} {env : Env} {s s₀ : Shared} {n : Nat} {A : Around} {fs : List Frame} {Y : Protocol} {R : GenEnd}
/-- what is done with an exception that leaves a loop's code -/
abbrev noted (env : Env) (e : Value) : Sem PySem.Fin := (do noteFrame e env; theTreesLotGoes e : Sem Unit).wrap (fun _ => .raise e) .raise id id
/-- what a body's end leads to -/
abbrev turned (c : Code) : Flow → Sem PySem.Fin := fun f => match f with
  | .next => .pure (.again c)
  | .cont => .pure (.again c)
  | .brk => .pure (.done .next)
  | .ret v => .pure (.done (.ret v))
theorem seg_forLoop {tg : Expr} {it : Value} {body : List Stmt}
    (h : wpAny (model prog w) (A.over (.forLoop tg it body [] env) fs) (pyNext it) (fun r s1 => match r with
      | none => Seg (model prog w) A R Y n s₀ (.forLoop tg it body [] env) (.pure (.again (.block [] env))) fs s1
      | some v => wpAny (model prog w) (A.over (.forLoop tg it body [] env) fs) (letOwnedTupleGo tg it v) (fun _ s2 => wpAny (model prog w) (A.over (.forLoop tg it body [] env) fs) (assign tg env v) (fun _ s3 =>
          Seg (model prog w) A R Y n s₀ (.forLoop tg it body [] env) ((execs body env).wrap (turned (.forLoop tg it body [] env)) (noted env) id id) fs s3)
        (fun x s' => Seg (model prog w) A R Y n s₀ (.forLoop tg it body [] env) (noted env x) fs s') s2) (fun x s' => Seg (model prog w) A R Y n s₀ (.forLoop tg it body [] env) (noted env x) fs s') s1)
      (fun x s' => Seg (model prog w) A R Y n s₀ (.forLoop tg it body [] env) (noted env x) fs s') s) :
    Seg (model prog w) A R Y n s₀ (.forLoop tg it body [] env) ((model prog w).den (.forLoop tg it body [] env)) fs s := by
  show Seg _ A R Y n s₀ _ ((forTurn tg it body [] env).onRaise (fun x => do noteFrame x env; theTreesLotGoes x)) fs s
  have conv : ∀ (x : Value) (s' : Shared), Seg (model prog w) A R Y n s₀ (.forLoop tg it body [] env) (noted env x) fs s' → Seg (model prog w) A R Y n s₀ (.forLoop tg it body [] env) ((do noteFrame x env; theTreesLotGoes x : Sem Unit).bind fun _ => .raise x) fs s' := fun x s' hx => by
    rw [Sem.bind_eq_wrap]
    exact hx
  unfold forTurn
  rw [Sem.onRaise_eq_wrap]
  apply seg_bind_wrap (wpAny_standAt _)
  refine seg_bind_wrap (wpAny_onRaise (wpAny_mono h (fun r s1 h1 => ?_) fun x s' hx => wpAny_standAt (conv x s' hx)))
  cases r with
  | none => exact h1
  | some v =>
    refine seg_bind_wrap (wpAny_mono h1 (fun _ s2 h2 => ?_) fun x s' hx => conv x s' hx)
    refine seg_bind_wrap (wpAny_mono h2 (fun _ s3 h3 => ?_) fun x s' hx => conv x s' hx)
    rw [Sem.bind_eq_wrap', Sem.wrap_wrap]
    refine (Sem.wrap_congr (K' := turned (.forLoop tg it body [] env)) (H' := noted env) _ _ _ (fun f => ?_) fun e => Sem.bind_eq_wrap _ _).symm ▸ h3
    cases f <;> rfl
end
section
variable {X : Cx}
/-- how a loop's end comes back to the row that began it -/
abbrev came (X : Cx) (K : Flow → Sem PySem.Fin) (J : Value → Sem PySem.Fin) (gd : Bool → Bool) (lv : List Value → List Value) (c : Code) (p : Pos) : Frame :=
  .ret (fun r => ((match r with | .ok f => (.pure f : Sem Flow) | .error e => Sem.raise e).onRaise (cameBack X.env)).wrap K J gd lv) none (gd false) (lv []) c p []
/-- for within a generator's body -/
def tGFor (wi : TI) (g : TG) (tb : TGn) : TGn := fun D ys σ H => wi σ H fun J H1 => ∃ W : Nat → Nat → List V → L2.St → Hp → Prop, (∃ m, W 0 m ys σ H1) ∧ ∀ i m ys σ H, W i m ys σ H →
  (J.stop i H ∧ D.nx ys σ H) ∨ (J.go i H ∧ ∃ N : List V → L2.St → Hp → Prop, (∀ ys' σ' H', N ys' σ' H' → ∃ m', m' < m ∧ W (i + 1) m' ys' σ' H') ∧ ∀ x H', J.yld i H x H' → g x σ H' fun σ2 H2 => tb { D with nx := N, ct := N, bk := D.nx } ys σ2 H2)
theorem gs_for {tg iter : Expr} {body : List Stmt} {wi : TI} {g : TG} {tb : TGn} {pos : Pos} (hp : PassesOwn (model X.prog X.w) X.A X.env X.xe) (hc : X.calm = true) (hi : PI X tg iter wi) (hg : PG X tg g) (hb : GSs X body tb)
    (hs : ∀ x, foldedSetIterable iter X.env x = pure x := by intro _; rfl) : GS X (.For tg iter body [] pos) (tGFor wi g tb) := by
  refine ⟨fun A S ip R n ys s₀ c fs K J gd lv s σ H D gc hn k hI ht => ?_⟩
  obtain ⟨acc, cc, r, I⟩ := hI
  rw [exec_For]
  apply seg_bind_wrap (wpAny_standAt _)
  refine seg_bind_wrap ?_
  rw [gc.over]
  refine wpAny_mono (hi.run _ s σ H _ I ht) (fun v s1 h1 => ?_) fun x s' hx => k.exc n s₀ x s' hx
  refine seg_bind_wrap (wpAny_of_eq (hs v) ?_)
  apply seg_bind_wrap (wpAny_standAt _)
  refine seg_bind_wrap ?_
  rw [gc.over]
  refine wpAny_holding (wpAny_mono h1 (fun itv s2 h2 => ?_) fun x s' hx => k.exc n s₀ x s' hx)
  obtain ⟨it, fp, tn, Jt, H2, e, I2, Tn, st2, f2, W, ⟨m0, w0⟩, turn⟩ := h2
  subst e
  refine seg_call fun p => ?_
  have gl := fun (kk : Result → Sem PySem.Fin) => gc_loop (k := kk) (c' := .forLoop tg (.ref it) body [] X.env) (l := lv []) (kp := []) (p := p) gc rfl rfl
  have notS : ∀ b ∈ fp, b ≠ S := fun b hb => Ne.symm ((f2 b hb).2.2.2.2.2 (S, lstObj acc cc) (List.mem_append_right _ (.head _)))
  have notI : ∀ b ∈ fp, ∀ q ∈ X.pn ++ ip, q.1 ≠ b := fun b hb q hq => (f2 b hb).2.2.2.2.2 q ((List.mem_append.mp hq).elim (fun z => List.mem_append_left _ z) fun z => List.mem_append_right _ (.tail _ z))
  have stat : ∀ {H' : Hp} {a : Array Value} {c' : Nat}, (∀ b ∈ fp, H' b = none) → ∀ b ∈ fp, FpOk X ((S, lstObj a c') :: ip) H' b := fun hn b hb => by
    obtain ⟨_, q1, q2, q3, q4, _⟩ := f2 b hb
    refine ⟨hn b hb, q1, q2, q3, q4, fun q hq => ?_⟩
    rcases List.mem_append.mp hq with z | z
    · exact notI b hb q (List.mem_append_left _ z)
    · refine (List.mem_cons.mp z).elim (fun z => ?_) fun z => notI b hb q (List.mem_append_right _ z)
      rw [z]
      exact (notS b hb).symm
  have loop : ∀ (m n : Nat) (ys : List V) (s₀ s : Shared) (i : Nat) (σ : L2.St) (H : Hp), n + ys.length = sizeLine → W i m ys σ H → GI X S ip ys σ H s → tn i s.heap → (∀ b ∈ fp, H b = none) →
      Seg (model X.prog X.w) A R (GY X S) n s₀ (.forLoop tg (.ref it) body [] X.env) ((model X.prog X.w).den (.forLoop tg (.ref it) body [] X.env))
        (came X K J gd lv c p :: fs) s := by
    intro m
    refine Nat.strongRecOn m fun m ih => ?_
    · intro n ys s₀ s i σ H hn w hI st fr
      have ee : ∀ (n : Nat) (s₀ : Shared) (x : Value) (s' : Shared), X.xe x s' → Seg (model X.prog X.w) A R (GY X S) n s₀ (.forLoop tg (.ref it) body [] X.env)
          (noted X.env x)
          (came X K J gd lv c p :: fs) s' := fun n s₀ x s' hx => by
        refine seg_wrap ?_
        rw [(gl _).over]
        exact wpAny_bind (wpAny_mono (hp x s' hx) (fun _ t q => wpAny_theTreesLotGoes (seg_leaf (.error x) (seg_cameBack gc k q))) fun y t q => seg_leaf (.error y) (seg_cameBack gc k q))
      refine seg_forLoop ?_
      rw [(gl _).over]
      obtain ⟨acc, cc, r, I⟩ := hI
      rcases turn i m ys σ H w with ⟨stop, qn⟩ | ⟨go, N, hN, step⟩
      · refine wpAny_mono (Tn.done X rfl rfl rfl hc i _ s σ H X.xe I (stat fr) st stop) (fun r1 s4 ⟨hr, I4⟩ => ?_) fun x s' hx => ee n s₀ x s' hx
        subst hr
        exact seg_again rfl (seg_leaf (.ok .next) (k.ok n ys s₀ s4 .next hn ⟨σ, H, ⟨acc, cc, r, I4⟩, qn⟩))
      · refine wpAny_mono (Tn.item X rfl rfl rfl hc i _ s σ H X.xe I (stat fr) st go) (fun r1 s4 ⟨u, hr, h4⟩ => ?_) fun x s' hx => ee n s₀ x s' hx
        subst hr
        refine wpAny_mono h4 (fun _ s5 ⟨x, H5, I5, r5, y5, st5, fr5⟩ => ?_) fun x s' hx => ee n s₀ x s' hx
        have I5' := I5.pinned (stat fr5) (Tn.obj _ _ st5)
        refine wpAny_mono (hg.run _ s5 σ H5 x u _ I5' r5 (step x H5 y5)) (fun _ s6 ⟨σ6, H6, I6, q6⟩ => ?_) fun x s' hx => ee n s₀ x s' hx
        have gl2 : ∀ kk, GC X S (ip ++ pinsAt fp s5.heap) A (.forLoop tg (.ref it) body [] X.env) (.ret kk none (gd false) (lv []) c p [] :: fs) id := fun kk =>
          { gl kk with ip := fun q hq => (List.mem_append.mp hq).elim (gc.ip q) fun z => notS q.1 (of_pinsAt z).1 }
        have back : ∀ {ys' : List V} {σ7 : L2.St} {H7 : Hp} {s7 : Shared}, GI X S (ip ++ pinsAt fp s5.heap) ys' σ7 H7 s7 → GI X S ip ys' σ7 H7 s7 ∧ tn (i + 1) s7.heap ∧ ∀ b ∈ fp, H7 b = none := fun ⟨a7, c7, r7, I7⟩ => by
          have I7' : Inv X (((S, lstObj a7 c7) :: ip) ++ pinsAt fp s5.heap) _ _ _ := I7
          refine ⟨⟨a7, c7, r7, I7'.unpinned⟩, Tn.keep _ _ _ st5 fun b hb o e => (I7'.pin (b, o) (List.mem_append_right _ (List.mem_append_right _ (mem_pinsAt hb e)))).1, fun b hb => ?_⟩
          obtain ⟨o, e, d⟩ := Tn.obj _ _ st5 b hb
          exact (I7'.pin (b, o) (List.mem_append_right _ (List.mem_append_right _ (mem_pinsAt hb e)))).2.1
        refine hb.run A S (ip ++ pinsAt fp s5.heap) R n ys s₀ _ _ _ _ id id s6 σ6 H6 { D with nx := N, ct := N, bk := D.nx } (gl2 _) hn ⟨fun n' ys' s₀' s7 f hn' hs => ?_, fun n' s₀' x s7 hx => ee n' s₀' x s7 hx⟩ ⟨acc, cc, r, I6⟩ q6
        cases f with
        | next =>
          obtain ⟨σ7, H7, I7, n7⟩ := hs
          obtain ⟨b1, b2, b3⟩ := back I7
          obtain ⟨m', hm, w7⟩ := hN ys' σ7 H7 n7
          exact seg_again rfl (ih m' hm n' ys' s₀' s7 (i + 1) σ7 H7 hn' w7 b1 b2 b3)
        | cont =>
          obtain ⟨σ7, H7, I7, n7⟩ := hs
          obtain ⟨b1, b2, b3⟩ := back I7
          obtain ⟨m', hm, w7⟩ := hN ys' σ7 H7 n7
          exact seg_again rfl (ih m' hm n' ys' s₀' s7 (i + 1) σ7 H7 hn' w7 b1 b2 b3)
        | brk =>
          obtain ⟨σ7, H7, I7, n7⟩ := hs
          exact seg_leaf (.ok .next) (k.ok n' ys' s₀' s7 .next hn' ⟨σ7, H7, (back I7).1, n7⟩)
        | ret v =>
          obtain ⟨x7, σ7, H7, I7, r7, q7⟩ := hs
          exact seg_leaf (.ok (.ret v)) (k.ok n' ys' s₀' s7 (.ret v) hn' ⟨x7, σ7, H7, (back I7).1, r7, q7⟩)
  exact loop m0 n ys s₀ s2 0 σ H2 hn w0 ⟨acc, cc, r, I2⟩ st2 fun b hb => (f2 b hb).1
end
end Vm

set_option Elab.async false
set_option linter.all false
set_option maxRecDepth 100000
set_option maxHeartbeats 4100000
namespace Vm
open L2 PyProof.Rows PySem PySem.Spec
/-! ### defs that hand out: what they have handed out so far is kept beside the slots -/
inductive RG where
  | nx (ys : List U) (s : Sl) (h : Mh) | ex (c : Nat) (f : List (Str × U)) (s : Sl) (h : Mh) | stuck
abbrev Mg := List U → Sl → Mh → RG
def gNil : Mg := fun ys s h => .nx ys s h
def gPlain (m : Ms) : Mg := fun ys s h => match m s h with
  | .nx s1 h1 => .nx ys s1 h1
  | .ex c f s1 h1 => .ex c f s1 h1
  | _ => .stuck
def gSeq (a b : Mg) : Mg := fun ys s h => match a ys s h with
  | .nx ys1 s1 h1 => b ys1 s1 h1
  | r => r
def gYield (e : Me) : Mg := fun ys s h => if decide (ys.length < lim) then (match e s h with
  | .ok u h1 => .nx (ys ++ [u]) s h1
  | .ex c f h1 => .ex c f s h1
  | .stuck => .stuck) else .stuck
def loopG (t : Gt) (b : Mg) : List U → Mg
  | [], ys, s, h => .nx ys s h
  | x :: xs, ys, s, h => match t x s h with
    | some s1 => match b ys s1 h with
      | .nx ys2 s2 h2 => loopG t b xs ys2 s2 h2
      | r => r
    | none => .stuck
def gForF (m : Mw) (t : Gt) (b : Mg) : Mg := fun ys s h => match m s h with
  | .ok us h1 => loopG t b us ys s h1
  | .ex c f h1 => .ex c f s h1
  | .stuck => .stuck
def PostG (g : Gc) (W : WX) (ρ : Wd) (r : RG) (D : GEnds) : Prop := match r with
  | .nx us s h => ∀ ρ' ys σ H, Wd.Le ρ ρ' → Cs g ρ' h H → Rls g ρ' us ys → Rsl g ρ' s σ → D.nx ys σ H
  | .ex c f s h => XpS g ρ c f s h W
  | .stuck => False
def AtG (g : Gc) (W : WX) (m : Mg) (D : GEnds) (ys : List V) (σ : L2.St) (H : Hp) : Prop := ∃ ρ us s h, Rls g ρ us ys ∧ Rsl g ρ s σ ∧ Cs g ρ h H ∧ PostG g W ρ (m us s h) D
def TGnm (g : Gc) (W : WX) (m : Mg) : TGn := fun D ys σ H => AtG g W m D ys σ H
section
variable {g : Gc} {W : WX} {ρ ρ' : Wd} {D : GEnds} {X : Cx} {st : Stmt} {sts : List Stmt} {t t' : TGn} {a b : Mg} {M : Ms} {e : Me} {pos yp : Pos}
theorem PostG.mono {r : RG} (le : Wd.Le ρ ρ') (p : PostG g W ρ r D) : PostG g W ρ' r D := by
  cases r with
  | nx us s h => exact fun ρ2 ys σ H e2 c r1 r2 => p ρ2 ys σ H (le.trans e2) c r1 r2
  | ex c f s h => exact XpS.mono le p
  | stuck => exact p
theorem GS.im (h : GS X st t) (k : ∀ D ys σ H, t' D ys σ H → t D ys σ H) : GS X st t' :=
  ⟨fun A S ip R n ys s₀ c fs K J gd lv s σ H D g hn kk hI ht => h.run A S ip R n ys s₀ c fs K J gd lv s σ H D g hn kk hI (k _ _ _ _ ht)⟩
theorem GSs.im (h : GSs X sts t) (k : ∀ D ys σ H, t' D ys σ H → t D ys σ H) : GSs X sts t' :=
  ⟨fun A S ip R n ys s₀ c fs K J gd lv s σ H D g hn kk hI ht => h.run A S ip R n ys s₀ c fs K J gd lv s σ H D g hn kk hI (k _ _ _ _ ht)⟩
theorem g_nil : GSs X [] (TGnm g W gNil) := GSs.im gss_nil fun D ys σ H ⟨ρ, us, s, h, ry, rs, cs, p⟩ => p ρ ys σ H (Wd.refl _) cs ry rs
theorem g_plain (hp : PS X st (TSm g W M)) : GS X st (TGnm g W (gPlain M)) := GS.im (gs_ps hp) fun D ys σ H ⟨ρ, us, s, h, ry, rs, cs, p⟩ => by
  refine ⟨ρ, s, h, rs, cs, ?_⟩
  unfold gPlain at p
  cases em : M s h with
  | nx s1 h1 =>
    rw [em] at p
    exact fun ρ' σ' H' le c r => p ρ' ys σ' H' le c (Rls.mono le ry) r
  | ex c f s1 h1 => rw [em] at p; exact p
  | rt u h1 => rw [em] at p; exact p.elim
  | bk s1 h1 => rw [em] at p; exact p.elim
  | ct s1 h1 => rw [em] at p; exact p.elim
  | stuck => rw [em] at p; exact p.elim
theorem g_cons (h1 : GS X st (TGnm g W a)) (h2 : GSs X sts (TGnm g W b)) : GSs X (st :: sts) (TGnm g W (gSeq a b)) := GSs.im (gss_cons h1 h2) fun D ys σ H ⟨ρ, us, s, h, ry, rs, cs, p⟩ => by
  refine ⟨ρ, us, s, h, ry, rs, cs, ?_⟩
  unfold gSeq at p
  cases em : a us s h with
  | nx us1 s1 h1 =>
    rw [em] at p
    exact fun ρ' ys' σ' H' le c r1 r2 => ⟨ρ', us1, s1, h1, r1, r2, c, PostG.mono le p⟩
  | ex c f s1 h1 => rw [em] at p; exact p
  | stuck => rw [em] at p; exact p.elim
theorem g_yield {x : Expr} (he : PE X x (T g W e)) (hco : X.env.scope.isCoroutine = false := by rfl) (hi : interactive X.env = false := by rfl) : GS X (.Expr (.Yield (some x) yp) pos) (TGnm g W (gYield e)) := GS.im (gs_yield he hco hi) fun D ys σ H ⟨ρ, us, s, h, ry, rs, cs, p⟩ => by
  unfold gYield at p
  by_cases c : us.length < lim
  · rw [if_pos (by simpa using c)] at p
    refine ⟨by rw [← Paired.length ry]; exact lim_line (by unfold lim at c; omega), ρ, s, h, rs, cs, ?_⟩
    cases em : e s h with
    | ok u h1 =>
      rw [em] at p
      exact fun ρ' v H' le c' r' => p ρ' _ σ H' le c' (Paired.app (Rls.mono le ry) (.cons r' .nil)) (Rsl.mono le rs)
    | ex c f h1 =>
      rw [em] at p
      exact fun ρ' H' le c' => p ρ' σ H' le c' (Rsl.mono le rs)
    | stuck => rw [em] at p; exact p.elim
  · rw [if_neg (by simpa using c)] at p
    exact p.elim
theorem g_for {tg iter : Expr} {body : List Stmt} {m : Mw} {is : List Nat} {t : Gt} (hp : PassesOwn (model X.prog X.w) X.A X.env X.xe) (hc : X.calm = true) (hi : PI X tg iter (TIt g W (toMi m))) (hg : PG X tg (TGm g is t)) (hb : GSs X body (TGnm g W b))
    (hs : ∀ x, foldedSetIterable iter X.env x = pure x := by intro _; rfl) : GS X (.For tg iter body [] pos) (TGnm g W (gForF m t b)) := GS.im (gs_for hp hc hi hg hb hs) fun D ys σ H ⟨ρ0, us0, s, h, ry, hs0, cs, p⟩ => by
  refine ⟨ρ0, s, h, hs0, cs, ?_⟩
  unfold gForF at p
  cases em : m s h with
  | ex c f h1 =>
    unfold toMi
    rw [em] at p
    simp only [R.bind, em]
    exact fun ρ' H' le c' => p ρ' σ H' le c' (Rsl.mono le hs0)
  | stuck => rw [em] at p; exact p.elim
  | ok xs h1 =>
    unfold toMi
    rw [em] at p
    simp only [R.bind, em]
    intro ρ1 J H1 e1 c1 k1
    refine ⟨fun i n ys σ H => ∃ ρ us s h, Wd.Le ρ1 ρ ∧ Cs g ρ h H ∧ Rls g ρ us ys ∧ Rsl g ρ s σ ∧ i ≤ xs.length ∧ n = xs.length - i ∧ PostG g W ρ (loopG t b (xs.drop i) us s h) D,
      ⟨xs.length, ρ1, us0, s, h1, Wd.refl _, c1, Rls.mono e1 ry, Rsl.mono e1 hs0, Nat.zero_le _, rfl, PostG.mono e1 p⟩, ?_⟩
    rintro i n ys σ H ⟨ρ, us, s, h, e2, cs, ry, rs, li, rfl, p⟩
    have kk := k1 ρ i h H e2.lx cs
    cases ei : xs[i]? with
    | none =>
      have hl := List.getElem?_eq_none_iff.mp ei
      unfold itF at kk
      rw [if_pos li, ei] at kk
      obtain ⟨_, st⟩ := kk
      rw [List.drop_eq_nil_of_le hl] at p
      exact .inl ⟨st, p ρ ys σ H (Wd.refl _) cs ry rs⟩
    | some x =>
      obtain ⟨hl, hx⟩ := List.getElem?_eq_some_iff.mp ei
      unfold itF at kk
      rw [if_pos li, ei] at kk
      obtain ⟨go, yl⟩ := kk
      rw [List.drop_eq_getElem_cons hl, hx] at p
      refine .inr ⟨go, fun ys σ H => ∃ ρ us s h, Wd.Le ρ1 ρ ∧ Cs g ρ h H ∧ Rls g ρ us ys ∧ Rsl g ρ s σ ∧ i + 1 ≤ xs.length ∧ PostG g W ρ (loopG t b (xs.drop (i + 1)) us s h) D,
        fun ys' σ' H' ⟨r1, r2, r3, r4, r5, r6, r7, r8, r9, r10⟩ => ⟨xs.length - (i + 1), by omega, r1, r2, r3, r4, r5, r6, r7, r8, r9, rfl, r10⟩, fun v H' y => ?_⟩
      obtain ⟨ρ2, f2, c2, r2⟩ := yl v H' y
      refine ⟨ρ2, x, s, h, r2, Rsl.mono f2 rs, c2, ?_⟩
      unfold loopG at p
      cases et : t x s h with
      | none => rw [et] at p; exact p.elim
      | some s1 =>
        rw [et] at p
        refine fun σ1 hs1 hw1 => ⟨ρ2, us, s1, h, Rls.mono f2 ry, hs1, c2, ?_⟩
        cases eb : b us s1 h with
        | nx us2 s2 h2 =>
          simp only [eb] at p
          exact fun ρ3 ys3 σ3 H3 e3 c3 ry3 rs3 => ⟨ρ3, us2, s2, h2, (e2.trans f2).trans e3, c3, ry3, rs3, hl, PostG.mono (f2.trans e3) p⟩
        | ex c f s2 h2 => simp only [eb] at p; exact PostG.mono (r := .ex c f s2 h2) f2 p
        | stuck => simp only [eb] at p; exact p.elim
end
/-- what such a def promises -/
def spG (g : Gc) (n : Nat) (d : List U → Mh → R (List U)) : SpG := fun vs H Q E => vs.length = n ∧ ∃ ρ xs h, Rls g ρ xs vs ∧ Cs g ρ h H ∧ Post g (Rls g) ρ (d xs h) Q E
def runG (N : Nat) (m : Mg) : List U → Mh → R (List U) := fun us h => if us.all pureU then (match m [] (slotsOf N us) [] with
  | .nx ys _ _ => if ys.all pureU then .ok ys h else .stuck
  | .ex c f _ _ => if pureF f then .ex c f h else .stuck
  | .stuck => .stuck) else .stuck
section
variable {g : Gc} {H : Hp}
theorem run_readG {N : List Str} {n : Nat} {m : Mg} {vs : List V} {Q : List V → Hp → Prop} {E : XK} (hg : g.exn = none) (q : spG g n (runG N.length m) vs H Q E) : TGnm g (fun cls d _ H => E cls d H) m { nx := fun ys _ H' => Q ys H', rt := fun ys v H' => v = .non ∧ Q ys H' } [] (L2.start N vs) H := by
  obtain ⟨_, ρ, us, h, r, cs, p⟩ := q
  unfold runG at p
  cases ea : us.all pureU with
  | false => rw [ea, if_neg Bool.false_ne_true] at p; exact p.elim
  | true =>
  rw [ea, if_pos rfl] at p
  have r0 : Rls g (ρ.call H) us vs := r.pu ea fun _ _ q => q
  refine ⟨ρ.call H, [], slotsOf N.length us, [], .nil, ?_, cs.call hg, ?_⟩
  · unfold L2.start slotsOf
    refine Paired.app (Rls.somes r0) ?_
    rw [← Paired.length r]
    exact Paired.rep (F := Rol g (ρ.call H)) (x := none) (y := none) trivial _
  · cases em : m [] (slotsOf N.length us) [] with
    | nx ys s h1 =>
      rw [em] at p
      simp only at p
      cases ey : ys.all pureU with
      | false => rw [ey, if_neg Bool.false_ne_true] at p; exact p.elim
      | true =>
        rw [ey, if_pos rfl] at p
        intro ρ2 out σ H2 e2 c2 ry _
        obtain ⟨w, cc⟩ := cs.back hg e2 c2 (F := ρ2.fz) (fun _ _ q => q) c2.fzH (fun _ _ q => q) c2.nfl
        exact p _ out H2 w cc (ry.pu ey fun _ _ q => q)
    | ex c f s h1 =>
      rw [em] at p
      simp only at p
      cases ef : pureF f with
      | false => rw [ef, if_neg Bool.false_ne_true] at p; exact p.elim
      | true =>
        rw [ef, if_pos rfl] at p
        intro ρ2 σ H2 e2 c2 _
        obtain ⟨w, cc⟩ := cs.back hg e2 c2 (F := ρ2.fz) (fun _ _ q => q) c2.fzH (fun _ _ q => q) c2.nfl
        have pp := p _ H2 w cc
        exact ⟨pp.1, fun d gs f0 hd rf => pp.2 d gs f0 hd (rf.pu ef fun _ _ q => q)⟩
    | stuck => rw [em] at p; exact p.elim
/-- a def that hands out, by its body's mirror -/
theorem gfn_ok {P : Program} {w : World} {K : PySem.W.Frag} {mg : Str → Option Value} {base : Heap} (hg : g.exn = none) {x qual : Str} {st : Stmt} {f : Addr} {fd : FuncData} {N ps : List Str} {k : Nat} {m : Mg} (F : Fun K x qual st f fd) (S : GScope N ps (defScope st))
    (body : ∀ (cdv : Value) (A : Around) (outer : List Env) (s : Shared) (H : Hp) (E : XK) (pn : List (Addr × Obj)), Room k (A.deeper (envOfC qual (defScope st) s.heap.objs.size f cdv)) →
      (gcxOf P w K mg base N qual (defScope st) f cdv A outer s H E pn).A.units + 65 < cLine →
      PassesOwn (model P w) (gcxOf P w K mg base N qual (defScope st) f cdv A outer s H E pn).A (gcxOf P w K mg base N qual (defScope st) f cdv A outer s H E pn).env (gcxOf P w K mg base N qual (defScope st) f cdv A outer s H E pn).xe →
      Takes (gcxOf P w K mg base N qual (defScope st) f cdv A outer s H E pn) (fun cls d _ H => E cls d H) →
      GSs (gcxOf P w K mg base N qual (defScope st) f cdv A outer s H E pn) (defBody st) (TGnm g (fun cls d _ H => E cls d H) m)) :
    GFn P w K mg base (k + 1) f fd ps (spG g ps.length (runG N.length m)) := by
  obtain ⟨oc, od, kV, doc, pm, an, cdv, ct, osl, rfl, lk, hcd⟩ := F.ex; exact gfn_of lk hcd S (fun _ _ _ _ q => q.1) fun A outer s H vs Q E pn hr hsp => ⟨_, body cdv A outer s H E pn hr (by have := hr.un; show (A.deeper (envOfC qual (defScope st) s.heap.objs.size f cdv)).units + 65 < cLine; omega) owns_gcx takes_gcx, run_readG hg hsp⟩
/-- list(f(e, ..)): an exception of the def is not told -/
def mListG (d : List U → Mh → R (List U)) (L : Ml) : Me := fun s h => match L s h with
  | .ok us h1 => match d us h1 with
    | .ok ys h2 => newL ys h2
    | _ => .stuck
  | .ex c f h1 => .ex c f h1
  | .stuck => .stuck
theorem e_listG {X : Cx} {W : WX} {L : Ml} {k n : Nat} {f : Addr} {fd : FuncData} {ps : List Str} {d : List U → Mh → R (List U)} {x : Str} {e : Expr} {es : List Expr} {p p2 pos pos2 : Pos} (F : GFn X.prog X.w X.K X.mg X.base k f fd ps (spG g n d)) (hr : Room (k + 3) X.A) (hg : Gl X x) (hm : X.mg x = some (.ref f)) (hk : PySem.W.keepIn X.K (.ref f) = true) (hb : Binds X.K fd ps [])
    (hgl : Gl X "list") (hml : X.mg "list" = none) (ha : PA X (e :: es) (TL g W L)) (hl : ∀ s h xs h', L s h = .ok xs h' → xs.length = n) (hdb : (x == ("__debug__" : Str)) = false := by decide)
    (first : starEach (e :: es) X.env = (false, eval e X.env) :: starEach es X.env := by rfl) (plain : (backTo pos2 (starEach es X.env)).any (·.1) = false := by rfl) (one : starEach [.Call (.Name x p2) (e :: es) [] pos2] X.env = (false, eval (.Call (.Name x p2) (e :: es) [] pos2) X.env) :: starEach [] X.env := by rfl) :
    PE X (.Call (.Name "list" p) [.Call (.Name x p2) (e :: es) [] pos2] [] pos) (T g W (mListG d L)) := by
  have hrk : Room k X.A := by first | exact hr.le (by omega) | exact Room.mono hr (by omega)
  refine PE.im (pe_listG (E := fun _ _ _ => False) (pgen_call F hrk hg hm hk hb .nil ha hdb first plain) (fun pins σ H s e s1 I c => passL pins σ H s e s1 I c) (fun _ _ _ z => z.elim) hr hgl hml PyProof.Rows.boot_list) fun σ H Q q => ?_
  obtain ⟨ρ, s, h, hs, cs, p⟩ := q
  refine ⟨ρ, s, h, hs, cs, ?_⟩
  unfold mListG at p
  cases el : L s h with
  | ok xs h1 =>
    rw [el] at p
    simp only at p
    intro ρ1 vs H1 e1 c1 r1
    refine ⟨by rw [List.append_nil, ← Paired.length r1]; exact hl _ _ _ _ el, ρ1, xs, h1, by rw [List.append_nil]; exact r1, c1, ?_⟩
    cases ed : d xs h1 with
    | ok ys h2 =>
      rw [ed] at p
      exact fun ρ2 out H2 e2 c2 r2 q hq => newL_ok r2 (Post.mono (e1.trans e2) p) c2 hq
    | ex c f h2 => rw [ed] at p; exact p.elim
    | stuck => rw [ed] at p; exact p.elim
  | ex c f h1 => rw [el] at p; exact p
  | stuck => rw [el] at p; exact p.elim
end
end Vm

set_option Elab.async false
set_option linter.all false
set_option maxRecDepth 100000
set_option maxHeartbeats 4100000
namespace Vm
open L2 PyProof.Rows PySem PySem.Spec
/-! ### d[x], and the greatest of a row of whole numbers, or else -/
section
variable {X : Cx} {g : Gc} {W : WX} {A B : Me} {a b : Expr} {pos : Pos}
theorem e_dget (hu : X.A.units + 1 < cLine) (ha : PE X a (T g W A)) (hb : PE X b (T g W B)) (hs : NoSl b := by exact fun _ _ => rfl) : PE X (.Subscript a b pos) (T g W (m2 fDGet A B)) :=
  PE.im (pe_dget hu ha hb hs) fun _ _ _ q => at2 s_dget q
end
def rMaxDef (K : PySem.W.Frag) : R2 := fun x y H Q => ∃ a ns, x = .ref a ∧ (SqL K H a (ns.map V.int) ∨ SqT K H a (ns.map V.int)) ∧ (ns = [] → Q y H) ∧ ∀ n r, ns = n :: r → Q (.int (r.foldl max n)) H
def fMaxDef : F2 := fun x y h => match seqOf x h with
  | some (_, xs) => match intsOf xs with
    | some [] => .ok y h
    | some (i :: is) => .ok (.int (is.foldl max i)) h
    | none => .stuck
  | none => .stuck
theorem ints_reads {h : Heap} : ∀ {us : List Value} {ns : List Int}, IntsAre us ns → ReadsAll h us (ns.map PyData.int) []
  | _, _, .nil => .nil
  | _, _, .cons n k r => ReadsAll.cons (as := []) (bs := []) (.int n k) (ints_reads r)
theorem ints_alike (ns : List Int) : PySem.W.AlikeAll (ns.map PyData.int) := by
  refine ⟨fun x hx y hy => ?_, fun x hx => ?_⟩
  · obtain ⟨i, _, rfl⟩ := List.mem_map.mp hx
    obtain ⟨j, _, rfl⟩ := List.mem_map.mp hy
    rfl
  · obtain ⟨i, _, rfl⟩ := List.mem_map.mp hx
    exact fun z => nomatch z
theorem ints_depth : ∀ ns : List Int, PyData.depthAll (ns.map PyData.int) ≤ 1
  | [] => (by simp [PyData.depthAll] : PyData.depthAll [] ≤ 1)
  | n :: ns => by
    have := ints_depth ns; simp only [List.map_cons, PyData.depthAll, PyData.depth]
    omega
section
variable {X : Cx} {g : Gc}
theorem cr_maxDef (hc : X.calm = true) (hu : X.A.units + 2 < cLine) : CallRK X (.builtin "max") ["default"] (fun xs zs H Q => match xs, zs with
    | [x], [y] => rMaxDef X.K x y H Q
    | _, _ => False) := by
  intro pins s σ H xs zs us ws Q I rx rz q
  split at q
  · rename_i x y
    obtain ⟨a, ns, rfl, hs, q0, q1⟩ := q
    cases rx with
    | cons r1 t1 =>
    cases t1
    cases rz with
    | cons r2 t2 =>
    cases t2
    cases r1
    rename_i w
    have dp : X.A.units + 1 + PyData.depthAll (ns.map PyData.int) < cLine := by have := ints_depth ns; omega
    have none_ : ns.map PyData.int = [] → ∀ h' tk, (∀ b o, s.heap.get? b = some o → h'.get? b = some o) → EP X pins σ Q w { s with heap := h', toks := tk } := fun e h' tk kp =>
      ⟨y, H, I.kept kp, r2, q0 (List.map_eq_nil_iff.mp e)⟩
    have some_ : ∀ {its : List Value}, IntsAre its ns → ∀ (y : PyData) (ys : List PyData) (i : Nat) v h' tk bs, ns.map PyData.int = y :: ys → its.toArray[i]? = some v → Reads h' v (PySem.W.maxD y ys) bs → (∀ b o, s.heap.get? b = some o → h'.get? b = some o) → EP X pins σ Q v { s with heap := h', toks := tk } := by
      intro its ia y ys i v h' tk bs e ei rd kp
      cases ns with
      | nil => cases e
      | cons n r =>
        cases e
        rw [PySem.W.maxD_ints] at rd
        cases rd
        exact ⟨.int _, H, I.kept kp, ⟨_, rfl⟩, q1 n r rfl⟩
    rcases hs with hs | hs
    · obtain ⟨its, rv, hl, _⟩ := I.list hs
      exact PySem.W.max_list_default (I.ok.hd hc) hl.isList (ints_reads rv.ints) (ints_alike ns) dp none_ (some_ rv.ints)
    · obtain ⟨its, rv, hl, _⟩ := I.tuple hs
      exact PySem.W.max_tuple_default (I.ok.hd hc) hl (ints_reads rv.ints) (ints_alike ns) dp none_ (some_ rv.ints)
  · exact q.elim
theorem s_maxDef {K : PySem.W.Frag} (hK : K = g.K := by assumption) : S2 g fMaxDef (rMaxDef K) := fun E ρ x y vx vy h H Q rx ry cs p => by
  subst hK
  unfold fMaxDef at p
  split at p
  · rename_i k xs es
    obtain ⟨a, vs, rfl, rv, h1, h2⟩ := seq_ok cs rx es
    split at p
    · rename_i ei
      have := ints_rel rv ei
      subst this
      refine ⟨a, [], rfl, ?_, fun _ => Post.here (rel := Rl g) p cs ry, fun n r e => by cases e⟩
      cases k with
      | true => exact .inl (SqL.of (h1 rfl))
      | false => exact .inr (h2 rfl)
    · rename_i i is ei
      have := ints_rel rv ei
      subst this
      refine ⟨a, i :: is, rfl, ?_, (fun e => by cases e), fun n r e => by cases e; exact Post.here (rel := Rl g) p cs rfl⟩
      cases k with
      | true => exact .inl (SqL.of (h1 rfl))
      | false => exact .inr (h2 rfl)
    · exact p.elim
  · exact p.elim
theorem e_maxDef {W : WX} {A B : Me} {a b : Expr} {p pos kp : Pos} (hK : X.K = g.K) (hc : X.calm = true) (hu : X.A.units + 2 < cLine) (hg : Gl X "max") (hm : X.mg "max" = none) (ha : PE X a (T g W A)) (hb : PE X b (T g W B))
    (na : starEach [a] X.env = (false, eval a X.env) :: starEach [] X.env := by rfl) (he : backTo pos (starEach [a] X.env) = (false, eval a X.env) :: backTo pos (starEach [] X.env) := by rfl) (hpl : (backTo pos (starEach [a] X.env)).any (·.1) = false := by rfl) :
    PE X (.Call (.Name "max" p) [a] [⟨some "default", b, kp⟩] pos) (T g W (m2 fMaxDef A B)) :=
  PE.im (pe_callBK (cr_maxDef hc hu) hg hm (by decide +kernel) (pa_cons ha pa_nil (hs := na)) (pk_cons hb pk_nil) (by decide) (by decide) he hpl) fun σ H Q q => at2 (s_maxDef hK) q
end
end Vm

set_option Elab.async false
set_option linter.all false
set_option maxRecDepth 100000
set_option maxHeartbeats 4100000
namespace Vm
open L2 PyProof.Rows PySem PySem.Spec PpSet
/-! ### {e for x in xs}, e a whole number, and how many they are -/
/-- one turn of the set at D -/
def putS (D : Addr) (Nx : Hp → Prop) (y : V) (H : Hp) : Prop :=
  ∃ k S n, y = .int k ∧ H D = some (.set S n) ∧ n + 1 < scanBound ∧ Nx (upd H D (.set (fun j => S j || decide (j = k)) (if S k = true then n else n + 1)))
def tScI (wi : TI) (g : TG) (tt : TT) (te : TE) (vs : List Nat) : TE := fun σ H Q => wi σ H fun J H1 => ∀ D, H1 D = none →
  ∃ W : Nat → Nat → Hp → Prop, (∃ m, W 0 m (upd H1 D (.set (fun _ => false) 0))) ∧ ∀ i m H, W i m H → (J.stop i H ∧ Q (.ref D) H) ∨ (J.go i H ∧
    ∃ Nx : Hp → Prop, (∀ H', Nx H' → ∃ m', m' < m ∧ W (i + 1) m' H') ∧ ∀ x H', J.yld i H x H' → g x (wipe σ vs) H' fun σ2 H2 => wipe σ2 vs = wipe σ vs ∧ tt σ2 H2 fun b H3 => if b = true then te σ2 H3 (putS D Nx) else Nx H3)
section
variable {X : Cx}
theorem call_addI {pins : List (Addr × Obj)} {σ : L2.St} {H : Hp} {s : Shared} {D : Addr} {k : Int} {t : Tok} {S : Int → Bool} {n : Nat} {Q : VK} (I : Inv X pins σ H s) (hD : H D = some (.set S n)) (room : n + 1 < scanBound) (q : Q .non (upd H D (.set (fun j => S j || decide (j = k)) (if S k = true then n else n + 1)))) :
    wpAny (model X.prog X.w) X.A (call (.builtin "set.add") [.ref D, .int k t]) (EP X pins σ Q) X.xe s := by
  have there : s.heap.SetOf (intKind X.prog X.w) D S n := I.hok D _ hD
  apply call_set_add (knd := intKind X.prog X.w) (k := k) (key := .int k t) (by simp [PySem.intKind, Value.isInt]) rfl there room
  intro h' rest now
  have ⟨o, _, _, _, ho, _⟩ := now
  exact ⟨.non, _, I.write (e := D) (o := .set (fun j => S j || decide (j = k)) (if S k = true then n else n + 1)) (t' := s.toks + 1) (by rw [hD]; trivial) (.inl rfl) (fun b u hb hu => (rest.2 b hb).trans hu) ⟨o, ho⟩ now, rfl, q⟩
theorem pe_scI {elt tg iter : Expr} {ifs : List Expr} {scope : Scope} {own : List (Str × Nat)} {pos : Pos} {wi : TI} {g : TG} {tt : TT} {te : TE} (hc : X.calm = true) (hN : X.N.Nodup) (hi : PI X tg iter wi) (ok : BlkOk X.N X.env.scope scope own) (hg : ∀ (s : Shared) (H : Hp) (C : Addr) (cl : List (Str × Addr)) (fp : List Addr), PG (X.blk s H scope (compEnvC scope cl C X.env) fp) tg g) (ht : ∀ (s : Shared) (H : Hp) (C : Addr) (cl : List (Str × Addr)) (fp : List Addr), PTs (X.blk s H scope (compEnvC scope cl C X.env) fp) ifs tt) (he : ∀ (s : Shared) (H : Hp) (C : Addr) (cl : List (Str × Addr)) (fp : List Addr), PE (X.blk s H scope (compEnvC scope cl C X.env) fp) elt te) (hs : ∀ x, foldedSetIterable iter X.env x = pure x := by intro _; rfl) :
    PE X (.SetComp elt [⟨tg, iter, ifs, 0⟩] scope pos) (tScI wi g tt te (own.map (·.2))) := by
  constructor
  intro pins s σ H Q I q
  rw [PpSet.eval_SetComp]
  have reach : ∀ y ∈ scope.names, y.2 = .free → ∃ c, X.env.cells.lookup y.1 = some c := fun y my ey => (ok.free y my ey).elim (fun k => I.ok.has _ (.inl k)) fun k => I.ok.has _ (.inr k)
  apply wpAny_comprehension_free (use := none) rfl hs (closure_ok reach) ok.kind (fun y my ey => by rw [ok.uniq y my, ey])
  refine thn (hi.run pins s σ H _ I q) fun v sa va => thn va ?_
  rintro itv sb ⟨it, fp, tn, J, Hb, rfl, Ib, Tn, here, away, rest⟩
  apply newSet_ok (w := X.w)
  apply newEnv_comp
  obtain ⟨W, ⟨m0, w0⟩, turn⟩ := rest sb.heap.objs.size (Ib.hok.fresh (Nat.le_refl _))
  generalize eD : sb.heap.objs.size = D at w0 turn ⊢
  generalize eH : upd Hb D (.set (fun _ => false) 0) = Hc at w0
  generalize eS : ({ sb with heap := sb.heap.push { cls := .type "set", dict := none, data := .set #[] 0 (.fresh 0 0 (!X.w.params.followText "set-order")) } } : Shared) = sc
  have hsc : sc.heap = sb.heap.push { cls := .type "set", dict := none, data := .set #[] 0 (.fresh 0 0 (!X.w.params.followText "set-order")) } := by rw [← eS]
  have grown : ∀ b o, sb.heap.get? b = some o → sc.heap.get? b = some o := fun b o e => by rw [hsc]; exact Heap.get?_push_of_some _ e
  have Ic : Inv X pins σ Hc sc := by
    rw [← eS, ← eH, ← eD]
    exact Ib.laid (t' := sb.toks) (fun b o e => Heap.get?_push_of_some _ e) (Nat.le_refl _) (show Heap.SetOf (intKind X.prog X.w) _ _ _ _ from ⟨_, #[], 0, _, Heap.get?_push_size _ rfl, ⟨rfl, rfl, rfl⟩, rfl, (fun e he => by simp at he), (fun k => by simp), (by decide), (by rfl), rfl⟩)
  have old : ∀ b ∈ fp, b < D := fun b hb => by
    obtain ⟨o, e, _⟩ := Tn.obj _ _ here b hb
    rw [← eD]
    exact Heap.lt_size e
  have awayC : ∀ b ∈ fp, FpOk X pins Hc b ∧ b < sc.heap.objs.size := fun b hb => by
    have hlt := old b hb
    refine ⟨⟨?_, (away b hb).2⟩, by rw [hsc, Heap.size_push, eD]; exact Nat.lt_succ_of_lt hlt⟩
    rw [← eH, upd_ne (Nat.ne_of_lt hlt)]
    exact (away b hb).1
  have Ie := block_start Ic ok hN awayC
  have hereC : tn 0 sc.heap := Tn.keep _ _ _ here fun b _ o e => grown b o e
  show codeAny _ _ (.compStart (.SetComp elt [⟨tg, iter, ifs, 0⟩] scope pos) 0 (.ref it) (.ref D) (compEnvC scope (cellsFrom (sc.heap.objs.size + 1) scope.names (cloFrom X.env.cells scope.names [])) sc.heap.objs.size X.env)) (compPost (model X.prog X.w) X.A X.xe none (EP X pins σ Q) (.ref D) sc.heap.objs.size) { sc with heap := pushCells (sc.heap.push { cls := .type "dict", data := .dict #[] }) scope.names }
  generalize eC : sc.heap.objs.size = C at Ie awayC ⊢
  have pg := hg sc Hc C (cellsFrom (C + 1) scope.names (cloFrom X.env.cells scope.names [])) fp
  have pt := ht sc Hc C (cellsFrom (C + 1) scope.names (cloFrom X.env.cells scope.names [])) fp
  have pe := he sc Hc C (cellsFrom (C + 1) scope.names (cloFrom X.env.cells scope.names [])) fp
  generalize eV : compEnvC scope (cellsFrom (C + 1) scope.names (cloFrom X.env.cells scope.names [])) C X.env = ce at Ie pg pt pe ⊢
  have cl : ce.locals = C := by rw [← eV]; rfl
  generalize eE : ({ sc with heap := pushCells (sc.heap.push { cls := .type "dict", data := .dict #[] }) scope.names } : Shared) = se at Ie ⊢
  have hereE : tn 0 se.heap := Tn.keep _ _ _ hereC fun b _ o e => by rw [← eE]; exact pushCells_keeps _ _ _ _ (Heap.get?_push_of_some _ e)
  have mine : ∀ {σ' : L2.St} {H' : Hp} {s' : Shared}, Inv (X.blk sc Hc scope ce fp) [] σ' H' s' → (∀ b ∈ fp, H' b = none) → ∀ b ∈ fp, FpOk (X.blk sc Hc scope ce fp) [] H' b := fun J1 nn b hb =>
    ⟨nn b hb, (J1.ok.exf b hb).1, J1.ok.exfs b hb, .inl hb, fun x c e => (J1.ok.exf b hb).2 x c e, fun p hp => by cases hp⟩
  have walk : codeAny (model X.prog X.w) X.A (.compLoop (.SetComp elt [⟨tg, iter, ifs, 0⟩] scope pos) 0 (.ref it) (.ref D) ce) (compPost (model X.prog X.w) X.A X.xe none (EP X pins σ Q) (.ref D) C) se := by
    apply compLoopS_any (fun n s' => ∃ i H', Inv (X.blk sc Hc scope ce fp) [] (wipe σ (own.map (·.2))) H' s' ∧ tn i s'.heap ∧ (∀ b ∈ fp, H' b = none) ∧ W i n H') ?_ m0 ⟨0, Hc, Ie, hereE, fun b hb => (awayC b hb).1.1, w0⟩
    rintro n s1 ⟨i, H1, I1, at1, no1, w1⟩
    rcases turn i n H1 w1 with ⟨stop, done⟩ | ⟨go, Nx, less, step⟩
    · refine thnF (Tn.done (X.blk sc Hc scope ce fp) rfl rfl rfl hc i [] s1 _ H1 (fun _ _ => False) I1 (mine I1 no1) at1 stop) ?_
      rintro r s2 ⟨rfl, I2⟩
      have back : Inv X pins σ H1 s2 := Ic.call' (ch := fp) I2.os I2.base I2.hok I2.bare fun b hb => ⟨(awayC b hb).1.2.2.2.1, (awayC b hb).1.2.1, (awayC b hb).1.2.2.2.2.1, (awayC b hb).1.2.2.2.2.2⟩
      obtain ⟨m, names, _⟩ := I2.loc
      have names : s2.heap.Ns ce.locals m := names
      have gone : H1 ce.locals = none := I2.free
      rw [cl] at names gone
      obtain ⟨f0, f1, f2, f3, f4, f5⟩ := Ic.fpOk (Nat.le_of_eq eC) gone
      exact ⟨m, names, fun h2 sb2 => ⟨.ref D, H1, back.turned (t' := s2.toks) (fun b o hb e => (sb2.2 b hb).trans e) f0 f1 f3 f4 f5, rfl, done⟩⟩
    · refine thnF (Tn.item (X.blk sc Hc scope ce fp) rfl rfl rfl hc i [] s1 _ H1 (fun _ _ => False) I1 (mine I1 no1) at1 go) ?_
      rintro r s2 ⟨u, rfl, next⟩
      refine thnF next ?_
      rintro _ s3 ⟨x, H3, I3, rx, yx, at3, no3⟩
      refine thnF (pg.run _ s3 _ H3 x u _ (I3.pinned (mine I3 no3) (Tn.obj _ _ at3)) rx (step x H3 yx)) ?_
      rintro _ s4 ⟨σ4, H4, I4, e4, q4⟩
      refine thnF (pt.run _ s4 σ4 H4 _ I4 q4) ?_
      rintro b s5 ⟨H5, I5, q5⟩
      have again : ∀ {s' : Shared} {H' : Hp}, Inv (X.blk sc Hc scope ce fp) ([] ++ pinsAt fp s3.heap) σ4 H' s' → Nx H' → ∃ m, m < n ∧ ∃ i H', Inv (X.blk sc Hc scope ce fp) [] (wipe σ (own.map (·.2))) H' s' ∧ tn i s'.heap ∧ (∀ b ∈ fp, H' b = none) ∧ W i m H' := fun {s' H'} J1 nx => by
        obtain ⟨m', lt, w'⟩ := less H' nx
        have stays : ∀ b ∈ fp, ∀ o, s3.heap.get? b = some o → s'.heap.get? b = some o ∧ H' b = none := fun b hb o e => ⟨(J1.pin (b, o) (List.mem_append_right _ (List.mem_append_right _ (mem_pinsAt hb e)))).1, (J1.pin (b, o) (List.mem_append_right _ (List.mem_append_right _ (mem_pinsAt hb e)))).2.1⟩
        refine ⟨m', lt, i + 1, H', (J1.unpinned (pins := [])).weak (by rw [← e4, wipe_length]) (fun j v e => ?_), Tn.keep _ _ _ at3 fun b hb o e => (stays b hb o e).1, fun b hb => ?_, w'⟩
        · rw [← e4] at e
          exact (wipe_some e).1
        · obtain ⟨o, e, _⟩ := Tn.obj _ _ at3 b hb
          exact (stays b hb o e).2
      cases b with
      | false => exact again I5 q5
      | true =>
        refine thnF (pe.run _ s5 σ4 H5 _ I5 q5) ?_
        rintro z s6 ⟨y, H6, I6, ry, k, S, n6, ey, hD, few, nx⟩
        subst ey
        obtain ⟨tok, rfl⟩ := ry
        refine thnF (call_addI (X := X.blk sc Hc scope ce fp) (Q := fun _ H' => Nx H') I6 hD few nx) ?_
        rintro _ s7 ⟨_, H7, I7, _, nx7⟩
        exact again I7 nx7
  exact codeAny_compStart_set walk (Tn.self X.A 0 _ _ _ hereE walk)
/-- len of such a set -/
def rLenI : List V → Hp → VK → Prop := fun xs H Q => ∃ a S n, xs = [V.ref a] ∧ H a = some (.set S n) ∧ n < scanBound ∧ Q (.int (n : Nat)) H
theorem cr_lenI : CallR X (.builtin "len") rLenI := by
  intro pins s σ H xs us Q I r q; obtain ⟨a, S, n, rfl, ha, few, y⟩ := q
  rw [Vals.ref1 r]
  obtain ⟨o, es, ep, t, ho, hex, hd, x1, x2, x3, hf, hn⟩ := (show s.heap.SetOf (intKind X.prog X.w) a S n from I.hok a _ ha)
  have J2 : Inv X pins σ H { s with toks := s.toks + 1 + 1 } := I.tok _
  exact call_len_set ho hex hd hf (by rw [hn]; unfold scanBound at few; omega) ⟨.int (n : Nat), H, J2, ⟨_, by rw [hn]⟩, y⟩
end
/-- the unlike ones, as they are met -/
def uniq (l : List Int) : List Int := l.foldl (fun r y => if r.contains y then r else r ++ [y]) []
theorem uniq_put (l : List Int) (y : Int) : uniq (l ++ [y]) = if (uniq l).contains y then uniq l else uniq l ++ [y] := by
  unfold uniq
  rw [List.foldl_append]
  rfl
theorem uniq_few (l : List Int) : (uniq l).length ≤ l.length := by
  have go : ∀ (l r : List Int), (l.foldl (fun r y => if r.contains y then r else r ++ [y]) r).length ≤ r.length + l.length := fun l => by
    induction l with
    | nil => exact fun r => Nat.le_refl _
    | cons y l ih =>
      intro r
      have h := ih (if r.contains y then r else r ++ [y])
      have : (if r.contains y then r else r ++ [y]).length ≤ r.length + 1 := by
        split
        · omega
        · rw [List.length_append]; exact Nat.le_refl _
      rw [List.foldl_cons]
      rw [List.length_cons]
      omega
  have h := go l []
  rw [List.length_nil, Nat.zero_add] at h; exact h
/-- what is left behind those so far -/
def setRest (t : Gt) (q : Mb) (e : Me) (s : Sl) (acc : List Int) (us : List U) (h : Mh) : R U := match loopCF t q e s us h with
  | .ok ys h2 => match intsOf ys with
    | some ns => if decide ((acc ++ ns).length ≤ 60) then .ok (.int ((uniq (acc ++ ns)).length : Nat)) h2 else .stuck
    | none => .stuck
  | _ => .stuck
def mSetLen (m : Mw) (t : Gt) (q : Mb) (e : Me) (vs : List Nat) : Me := fun s h => (m s h).bind fun us h1 => setRest t q e (wipeM s vs) [] us h1
section
variable {g : Gc} {W : WX} {t : Gt} {q : Mb} {e : Me} {s s1 : Sl} {acc : List Int} {us : List U} {x : U} {h h2 h3 : Mh}
theorem setRest_put {y : U} (et : t x s h = some s1) (eq : q s1 h = .ok true h2) (ee : e s1 h2 = .ok y h3) : setRest t q e s acc (x :: us) h = match y with
    | .int k => setRest t q e s (acc ++ [k]) us h3
    | _ => .stuck := by
  unfold setRest
  rw [loopCF_cons et eq ee]
  cases loopCF t q e s us h3 with
  | ok ys h4 =>
    cases y with
    | int k =>
      simp only [intsOf]
      cases intsOf ys with
      | some ns => simp only [List.append_assoc, List.singleton_append]
      | none => rfl
    | _ => simp only [intsOf]
  | ex c f h4 => cases y <;> rfl
  | stuck => cases y <;> rfl
theorem setRest_skip (et : t x s h = some s1) (eq : q s1 h = .ok false h2) : setRest t q e s acc (x :: us) h = setRest t q e s acc us h2 := by
  unfold setRest
  rw [loopCF, et]
  simp only [eq]
theorem setRest_few {ρ : Wd} {Q : VK} {σ : L2.St} (p : Post g (Rl g) ρ (setRest t q e s acc us h) Q (WE W σ)) : acc.length ≤ 60 := by
  unfold setRest at p
  split at p
  · split at p
    · by_cases c : (acc ++ ‹List Int›).length ≤ 60
      · rw [List.length_append] at c
        omega
      · rw [if_neg (by simpa using c)] at p
        exact p.elim
    · exact p.elim
  · exact p.elim
/-- what the set at D is -/
def SetIs (H : Hp) (D : Addr) (acc : List Int) : Prop := ∃ S, H D = some (.set S (uniq acc).length) ∧ ∀ i, S i = (uniq acc).contains i
theorem SetIs.put {H : Hp} {D : Addr} {S : Int → Bool} {k : Int} (e : ∀ i, S i = (uniq acc).contains i) : SetIs (upd H D (.set (fun j => S j || decide (j = k)) (if S k = true then (uniq acc).length else (uniq acc).length + 1))) D (acc ++ [k]) := by
  refine ⟨fun j => S j || decide (j = k), ?_, fun i => ?_⟩
  · rw [upd_same, uniq_put, e k]
    cases (uniq acc).contains k with
    | true => rfl
    | false => rw [if_neg Bool.false_ne_true, if_neg Bool.false_ne_true, List.length_append]; rfl
  · show (S i || decide (i = k)) = _
    rw [uniq_put, e i]
    cases hk : (uniq acc).contains k with
    | true =>
      rw [if_pos rfl]
      by_cases z : i = k
      · rw [z, hk]; rfl
      · rw [decide_eq_false z, Bool.or_false]
    | false =>
      rw [if_neg Bool.false_ne_true]; simp [List.contains_append]
theorem set_readF {m : Mw} {is vs : List Nat} (hv : ∀ i ∈ is, i ∈ vs) {σ : L2.St} {H : Hp} {Q : VK} (z : T g W (mSetLen m t q e vs) σ H Q) :
    tCB rLenI (tCons (tScI (TIt g W (toMi m)) (TGm g is t) (TB g W0 q) (T g W0 e) vs) tNil) σ H Q := by
  obtain ⟨ρ0, s, h0, hs0, cs0, p0⟩ := z
  show tScI (TIt g W (toMi m)) (TGm g is t) (TB g W0 q) (T g W0 e) vs σ H fun x H1 => rLenI [x] H1 Q
  refine ⟨ρ0, s, h0, hs0, cs0, ?_⟩
  unfold mSetLen at p0
  unfold toMi
  cases em : m s h0 with
  | ex c f h1 => rw [em] at p0; exact p0
  | stuck => rw [em] at p0; exact p0.elim
  | ok us h1 =>
  rw [em] at p0
  simp only [R.bind] at p0 ⊢
  intro ρ1 J H1 e1 c1 k1 D hD
  have hs1 : Rsl g ρ1 s σ := Rsl.mono e1 hs0
  refine ⟨fun i n H => ∃ ρ h acc, Wd.Le ρ1 ρ ∧ Cs g ρ h H ∧ Away ρ h H D ∧ SetIs H D acc ∧ i ≤ us.length ∧ n = us.length - i ∧ Post g (Rl g) ρ (setRest t q e (wipeM s vs) acc (us.drop i) h) Q (WE W σ),
    ⟨us.length, ρ1, h1, [], Wd.refl _, c1.skip hD, ⟨(c1.out hD).fz, (c1.out hD).lk, (c1.out hD).as⟩, ⟨fun _ => false, upd_same, fun _ => rfl⟩, Nat.zero_le _, rfl, Post.mono e1 p0⟩, ?_⟩
  rintro i n H ⟨ρ, h, acc, e2, cs, aw, ⟨S, eD, eS⟩, li, rfl, p⟩
  have few := setRest_few p
  have ws : Rsl g ρ (wipeM s vs) (wipe σ vs) := Rsl.mono e2 (Rsl.wipe hs1 vs)
  have kk := k1 (ρ.hold D (.set S (uniq acc).length)) i h H (e2.lx.trans ⟨List.prefix_refl _, fun _ _ q => q⟩) (cs.hold aw eD)
  have free : ∀ {H' : Hp}, H' D = some (.set S (uniq acc).length) → (∀ o w, H' D ≠ some (.frz o w)) ∧ (∀ φ : Heap → Prop, H' D ≠ some (HO.ext φ)) ∧ ∀ gs, H' D ≠ some (.xd gs) := fun e => ⟨fun _ _ z => (by rw [e] at z; cases z), fun _ z => (by rw [e] at z; cases z), fun _ z => (by rw [e] at z; cases z)⟩
  unfold itF at kk
  rw [if_pos li] at kk
  cases ei : us[i]? with
  | none =>
    rw [ei] at kk
    obtain ⟨_, st⟩ := kk
    rw [List.drop_eq_nil_of_le (List.getElem?_eq_none_iff.mp ei)] at p
    have p : Post g (Rl g) ρ (if decide ((acc ++ []).length ≤ 60) then .ok (.int ((uniq (acc ++ [])).length : Nat)) h else .stuck) Q (WE W σ) := p
    rw [List.append_nil, if_pos (decide_eq_true few)] at p
    have small := uniq_few acc
    exact .inl ⟨st, D, S, _, rfl, eD, by unfold scanBound; omega, Post.here (rel := Rl g) p cs rfl⟩
  | some x =>
    obtain ⟨hl, hx⟩ := List.getElem?_eq_some_iff.mp ei
    rw [ei] at kk
    obtain ⟨go, yl⟩ := kk
    rw [List.drop_eq_getElem_cons hl, hx] at p
    refine .inr ⟨go, fun H' => ∃ ρ h acc, Wd.Le ρ1 ρ ∧ Cs g ρ h H' ∧ Away ρ h H' D ∧ SetIs H' D acc ∧ Post g (Rl g) ρ (setRest t q e (wipeM s vs) acc (us.drop (i + 1)) h) Q (WE W σ),
      fun H' ⟨r1, r2, r3, r4, r5, r6, r7, r8⟩ => ⟨us.length - (i + 1), by omega, r1, r2, r3, r4, r5, r6, r7, hl, rfl, r8⟩, fun v H' y => ?_⟩
    obtain ⟨ρ2, f2, c2, r2⟩ := yl v H' y
    refine ⟨ρ2, x, wipeM s vs, h, r2, Rsl.mono f2 (Rsl.held ws), c2, ?_⟩
    cases et : t x (wipeM s vs) h with
    | none =>
      unfold setRest loopCF at p
      rw [et] at p
      exact p.elim
    | some s1 =>
      refine fun σ1 hs1 hw1 => ⟨(hw1 vs hv).trans wipe_self, ρ2, s1, h, hs1, c2, ?_⟩
      cases eq : q s1 h with
      | ex c f h3 =>
        unfold setRest loopCF at p
        simp only [et, eq] at p
        exact p.elim
      | stuck =>
        unfold setRest loopCF at p
        simp only [et, eq] at p
        exact p.elim
      | ok k h3 =>
        intro ρ3 k' H3 f3 c3 r3
        cases r3
        have f23 := f2.trans f3
        cases k with
        | false =>
          rw [if_neg Bool.false_ne_true]; rw [setRest_skip et eq] at p
          have eD3 := f23.same c3
          have ff := f23.freed aw
          have c3' := c3.freed f23 aw cs (free eD3) (.set S (uniq acc).length)
          rw [same_upd eD3] at c3'
          exact ⟨_, h3, acc, e2.trans ff, c3', f23.away aw c3, ⟨S, eD3, eS⟩, Post.mono ff p⟩
        | true =>
          rw [if_pos rfl]
          refine ⟨ρ3, s1, h3, Rsl.mono f3 hs1, c3, ?_⟩
          cases ee : e s1 h3 with
          | ex c f h4 =>
            unfold setRest loopCF at p
            simp only [et, eq, ee] at p
            exact p.elim
          | stuck =>
            unfold setRest loopCF at p
            simp only [et, eq, ee] at p
            exact p.elim
          | ok u h4 =>
            rw [setRest_put et eq ee] at p
            cases u with
            | int k =>
              intro ρ4 yv H4 f4 c4 r4
              obtain rfl : yv = .int k := r4
              have f24 := f23.trans f4
              have eD4 := f24.same c4
              have ff := f24.freed aw
              have aw4 := f24.away aw c4
              have small := uniq_few acc
              exact ⟨k, S, _, rfl, eD4, by unfold scanBound; omega, ⟨ρ4.as, ρ4.fz, ρ.lk⟩, h4, acc ++ [k], e2.trans ff, c4.freed f24 aw cs (free eD4) _, ⟨aw4.fz, aw4.lk, aw4.as⟩, SetIs.put eS, Post.mono ff p⟩
            | _ => exact p.elim
theorem e_setLen {X : Cx} {p pos pos2 : Pos} {elt tg iter : Expr} {ifs : List Expr} {scope : Scope} {own : List (Str × Nat)} {m : Mw} {is : List Nat} (hc : X.calm = true) (hN : X.N.Nodup) (hgl : Gl X "len") (hm : X.mg "len" = none) (hi : PI X tg iter (TIt g W (toMi m))) (ok : BlkOk X.N X.env.scope scope own)
    (hg : ∀ (s : Shared) (H : Hp) (C : Addr) (cl : List (Str × Addr)) (fp : List Addr), PG (X.blk s H scope (compEnvC scope cl C X.env) fp) tg (TGm g is t)) (ht : ∀ (s : Shared) (H : Hp) (C : Addr) (cl : List (Str × Addr)) (fp : List Addr), PTs (X.blk s H scope (compEnvC scope cl C X.env) fp) ifs (TB g W0 q))
    (he : ∀ (s : Shared) (H : Hp) (C : Addr) (cl : List (Str × Addr)) (fp : List Addr), PE (X.blk s H scope (compEnvC scope cl C X.env) fp) elt (T g W0 e)) (hv : ∀ i ∈ is, i ∈ own.map (·.2)) (hs : ∀ x, foldedSetIterable iter X.env x = pure x := by intro _; rfl)
    (na : starEach [.SetComp elt [⟨tg, iter, ifs, 0⟩] scope pos] X.env = (false, eval (.SetComp elt [⟨tg, iter, ifs, 0⟩] scope pos) X.env) :: starEach [] X.env := by rfl) (hpl : (backTo pos2 (starEach [] X.env)).any (·.1) = false := by rfl) :
    PE X (.Call (.Name "len" p) [.SetComp elt [⟨tg, iter, ifs, 0⟩] scope pos] [] pos2) (T g W (mSetLen m t q e (own.map (·.2)))) :=
  PE.im (pe_callB cr_lenI hgl hm PySem.boot_len (pa_cons (pe_scI hc hN hi ok hg ht he hs) pa_nil (hs := na)) (by decide) (by decide) na hpl) fun σ H Q z => set_readF hv z
end
theorem lt1 {n : Nat} (h : n + 65 < cLine) : n + 1 < cLine := by omega
theorem lt2 {n : Nat} (h : n + 65 < cLine) : n + 2 < cLine := by omega
end Vm

set_option Elab.async false
set_option linter.all false
set_option maxRecDepth 100000
set_option maxHeartbeats 4100000
namespace Vm
open L2 PyProof.Rows PySem PySem.Spec
/-! ### the truth of numbers and rows; any of numbers; the greatest of a row -/
def asT : U → Mh → R Bool := fun u h => match u with
  | .bl b => .ok b h
  | .int i => .ok (i != 0) h
  | .non => .ok false h
  | u => match seqOf u h with
    | some (_, xs) => .ok (!xs.isEmpty) h
    | none => .stuck
def bT (a : Me) : Mb := fun s h => (a s h).bind asT
section
variable {X : Cx} {g : Gc} {E : WX} {A : Me} {a : Expr}
theorem rls_empty {ρ : Wd} {xs : List U} {vs : List V} (r : Rls g ρ xs vs) : (!xs.isEmpty) = !vs.isEmpty := by
  cases r <;> rfl
theorem asT_ok {ρ : Wd} {K : PySem.W.Frag} (hK : K = g.K) {E : XK} {u : U} {v : V} {h : Mh} {H : Hp} {Q : Bool → Hp → Prop} (r : Rl g ρ u v) (cs : Cs g ρ h H) (p : Post g relB ρ (asT u h) Q E) : ∃ k, TruV K v H k ∧ Q k H := by
  subst hK
  have sq : ∀ k xs, seqOf u h = some (k, xs) → Post g relB ρ (.ok (!xs.isEmpty) h) Q E → ∃ k, TruV g.K v H k ∧ Q k H := fun k xs e p => by
    obtain ⟨a, vs, rfl, rv, h1, h2⟩ := seq_ok cs r e
    rw [rls_empty rv] at p
    refine ⟨_, ?_, Post.here (rel := relB) p cs rfl⟩
    cases k with
    | true => exact .inl ⟨vs, SqL.of (h1 rfl), rfl⟩
    | false => exact .inr (.inl ⟨vs, h2 rfl, rfl⟩)
  unfold asT at p
  split at p
  · obtain rfl : v = .bl _ := r
    exact ⟨_, rfl, Post.here (rel := relB) p cs rfl⟩
  · obtain rfl : v = .int _ := r
    exact ⟨_, rfl, Post.here (rel := relB) p cs rfl⟩
  · obtain rfl : v = .non := r
    exact ⟨_, rfl, Post.here (rel := relB) p cs rfl⟩
  · split at p
    · rename_i k xs e
      exact sq k xs e p
    · exact p.elim
theorem t_truth (hK : X.K = g.K) (h : PE X a (T g E A)) (he : ∀ whole, isTrue a X.env whole = (do let v ← whole; standAt a.pos; holding [v] (truthy v)) := by intro _; rfl) : PT X a (TB g E (bT A)) :=
  PT.im (pt_truth h he) fun σ H Q q => At.seq (rel := Rl g) (k := fun x _ h1 => asT x h1) q fun ρ1 x s h1 v H1 hs1 c1 r1 p1 => asT_ok hK r1 c1 p1
end
def rAnyE (K : PySem.W.Frag) : List V → Hp → VK → Prop := fun vs H Q => rAny K vs H Q ∨ ∃ (a : Addr) (ns : List Int), vs = [V.ref a] ∧ SqL K H a (ns.map V.int) ∧ Q (.bl (ns.any (· != 0))) H
def fAnyE : List U → Mh → R U := fun us h => match us with
  | [x] => match seqOf x h with
    | some (true, xs) => match blsOf xs with
      | some bs => .ok (.bl (bs.any id)) h
      | none => match intsOf xs with
        | some ns => .ok (.bl (ns.any (· != 0))) h
        | none => .stuck
    | _ => .stuck
  | _ => .stuck
def rMaxE (K : PySem.W.Frag) : List V → Hp → VK → Prop := fun vs H Q => ∃ (a : Addr) (n : Int) (r : List Int), vs = [V.ref a] ∧ (SqL K H a ((n :: r).map V.int) ∨ SqT K H a ((n :: r).map V.int)) ∧ Q (.int (r.foldl max n)) H
def fMaxE : List U → Mh → R U := fun us h => match us with
  | [x] => match seqOf x h with
    | some (_, xs) => match intsOf xs with
      | some (n :: r) => .ok (.int (r.foldl max n)) h
      | _ => .stuck
    | none => .stuck
  | _ => .stuck
section
variable {X : Cx} {g : Gc}
theorem cr_anyE (hc : X.calm = true) : CallR X (.builtin "any") (rAnyE X.K) := by
  intro pins s σ H vs us Q I r q
  rcases q with q | ⟨a, ns, rfl, hs, q⟩
  · exact cr_any hc pins s σ H vs us Q I r q
  · obtain ⟨its, rv, hl, hz⟩ := I.list hs
    rw [Vals.ref1 r]
    have plain : PyData.plainAll (ns.map PyData.int) = true := by
      clear rv hs q hz hl
      induction ns with
      | nil => rfl
      | cons n ns ih => simpa [PyData.plainAll, PyData.plain] using ih
    refine PySem.W.any_list_data (I.ok.hd hc) hl.isList (ints_reads rv.ints) plain (fun x hx => ?_) fun h' tk kp => ⟨.bl _, H, I.kept kp, ?_, q⟩
    · obtain ⟨i, _, rfl⟩ := List.mem_map.mp hx
      trivial
    · show Value.bool _ = Value.bool _; rw [List.any_map]
      rfl
theorem cr_maxE (hc : X.calm = true) (hu : X.A.units + 2 < cLine) : CallR X (.builtin "max") (rMaxE X.K) := by
  intro pins s σ H vs us Q I r q
  obtain ⟨a, n, ns, rfl, hs, q⟩ := q
  rw [Vals.ref1 r]
  have dp : X.A.units + 1 + PyData.depthAll ((n :: ns).map PyData.int) < cLine := by have := ints_depth (n :: ns); omega
  have fin : ∀ {its : List Value}, IntsAre its (n :: ns) → ∀ (i : Nat) v h' tk bs, its.toArray[i]? = some v → Reads h' v (PySem.W.maxD (.int n) (ns.map PyData.int)) bs → (∀ b o, s.heap.get? b = some o → h'.get? b = some o) → EP X pins σ Q v { s with heap := h', toks := tk } := by
    intro its ia i v h' tk bs ei rd kp
    rw [PySem.W.maxD_ints] at rd
    cases rd
    exact ⟨.int _, H, I.kept kp, ⟨_, rfl⟩, q⟩
  rcases hs with hs | hs
  · obtain ⟨its, rv, hl, _⟩ := I.list hs
    exact PySem.W.max_list_data (I.ok.hd hc) hl.isList (ints_reads rv.ints) (ints_alike (n :: ns)) dp (fin rv.ints)
  · obtain ⟨its, rv, hl, _⟩ := I.tuple hs
    exact PySem.W.max_tuple_data (I.ok.hd hc) hl (ints_reads rv.ints) (ints_alike (n :: ns)) dp (fin rv.ints)
theorem s_maxE {K : PySem.W.Frag} (hK : K = g.K := by assumption) : SL g fMaxE (rMaxE K) := fun E ρ xs vs h H Q r cs p => by
  subst hK
  unfold fMaxE at p
  split at p
  · obtain ⟨v, rfl, r1⟩ := one_of r
    split at p
    · rename_i k xs es
      obtain ⟨a, vs, rfl, rv, h1, h2⟩ := seq_ok cs r1 es
      split at p
      · rename_i n is ei
        have := ints_rel rv ei
        subst this
        refine ⟨a, n, is, rfl, ?_, Post.here (rel := Rl g) p cs rfl⟩
        cases k with
        | true => exact .inl (SqL.of (h1 rfl))
        | false => exact .inr (h2 rfl)
      · exact p.elim
    · exact p.elim
  · exact p.elim
theorem s_anyE {K : PySem.W.Frag} (hK : K = g.K := by assumption) : SL g fAnyE (rAnyE K) := fun E ρ xs vs h H Q r cs p => by
  subst hK
  unfold fAnyE at p
  split at p
  · obtain ⟨v, rfl, r1⟩ := one_of r
    split at p
    · rename_i xs es
      obtain ⟨a, vs, rfl, rv, h1, _⟩ := seq_ok cs r1 es
      split at p
      · rename_i bs eb
        exact .inl ⟨a, bs, rfl, by rw [← bls_rel rv eb]; exact SqL.of (h1 rfl), Post.here (rel := Rl g) p cs rfl⟩
      · split at p
        · rename_i ns ei
          have := ints_rel rv ei
          subst this
          exact .inr ⟨a, ns, rfl, SqL.of (h1 rfl), Post.here (rel := Rl g) p cs rfl⟩
        · exact p.elim
    · exact p.elim
  · exact p.elim
end
/-! ### xs.count(e), frozen ones too -/
def mMtLD (f : Fm) (o : Me) (a : Ml) : Me := fun s h => (o s h).bind fun x h1 => match kindK x h1 with
  | some true => (a s h1).bind fun xs h2 => f x xs h2
  | _ => .stuck
section
variable {X : Cx} {g : Gc} {W : WX} {A : Me} {L : Ml} {o e : Expr} {es : List Expr} {apos cpos : Pos}
theorem e_countD (hK : X.K = g.K) (hu : X.A.units + 65 < cLine) (ho : PE X o (T g W A)) (ha : PA X (e :: es) (TL g W L)) (b0 : attributeBase o "count" X.env (eval o X.env) = eval o X.env := by rfl)
    (b1 : ((backTo cpos (starEach (e :: es) X.env)).all (fun x => !x.1) && (backToKw cpos (keywordEach [] X.env)).all (fun x => x.1.isSome) && decide ((e :: es).length + ([] : List Keyword).length + (if ([] : List Keyword).isEmpty then 0 else 1) < 30)) = true := by rfl)
    (b2 : (apos.endLine == cpos.line) = true := by rfl) (b3 : starEach (e :: es) X.env = (false, eval e X.env) :: starEach es X.env := by rfl) (b4 : (backTo cpos (starEach es X.env)).any (·.1) = false := by rfl) :
    PE X (.Call (.Attribute o "count" apos) (e :: es) [] cpos) (T g W (mMtLD fCount A L)) := by
  refine PE.im (pe_bm PySem.F.plainAttrs_list PySem.F.slot_list_count PySem.F.type_list_count (mt_countD hu) ho ha b0 b1 b2 b3 b4) fun σ H Q q => At.seq (rel := Rl g) q fun ρ1 x s h1 v H1 hs1 c1 r1 p1 => ?_
  cases ek : kindK x h1 with
  | none => rw [ek] at p1; exact p1.elim
  | some k =>
    cases k with
    | false => rw [ek] at p1; exact p1.elim
    | true =>
      rw [ek] at p1
      obtain ⟨ad, rfl, k1, _⟩ := kind_ok c1 r1 ek
      refine ⟨by rw [hK]; exact .inl ⟨rfl, k1 rfl⟩, ρ1, s, h1, hs1, c1, (Post.cut (rel := Rls g) p1).imp fun ws H2 ⟨ρ2, us, h2, e2, c2, r2, p2⟩ => ?_⟩
      exact s_count hK _ ρ2 x us _ ws h2 H2 Q (Rl.mono e2 r1) r2 c2 p2
end
end Vm

set_option Elab.async false
set_option linter.all false
set_option maxRecDepth 100000
set_option maxHeartbeats 4100000
namespace Vm
open L2 PyProof.Rows PySem PySem.Spec
/-! ### how many unlike ones: rows of numbers, lists of such rows -/
section
variable {α : Type}
                        [DecidableEq α]
def unl (l : List α) : List α := l.foldl (fun r y => if r.any (fun z => decide (z = y)) then r else r ++ [y]) []
theorem unl_go (l : List α) : ∀ r : List α, r.Nodup → (l.foldl (fun r y => if r.any (fun z => decide (z = y)) then r else r ++ [y]) r).Nodup ∧ ∀ x, x ∈ l.foldl (fun r y => if r.any (fun z => decide (z = y)) then r else r ++ [y]) r ↔ x ∈ r ∨ x ∈ l := by
  induction l with
  | nil => intro r hr; exact ⟨hr, fun x => by simp⟩
  | cons y l ih =>
    intro r hr
    rw [List.foldl_cons]
    cases c : r.any (fun z => decide (z = y)) with
    | true =>
      rw [if_pos rfl]
      obtain ⟨h1, h2⟩ := ih r hr
      refine ⟨h1, fun x => (h2 x).trans ?_⟩
      obtain ⟨z, hz, e⟩ := List.any_eq_true.mp c
      have e := of_decide_eq_true e
      subst e
      rw [List.mem_cons]
      constructor
      · rintro (h | h)
        · exact .inl h
        · exact .inr (.inr h)
      · rintro (h | rfl | h)
        · exact .inl h
        · exact .inl hz
        · exact .inr h
    | false =>
      rw [if_neg
                          Bool.false_ne_true]
      have no : y ∉ r := fun h => by
        have : r.any (fun z => decide (z = y)) = true := List.any_eq_true.mpr ⟨y, h, decide_eq_true rfl⟩
        rw [c] at this; cases this
      have nd : (r ++ [y]).Nodup := List.nodup_append.mpr ⟨hr, List.nodup_cons.mpr ⟨by simp, List.nodup_nil⟩, fun a ha b hb => by rw [List.mem_singleton.mp hb]; exact fun e => no (e ▸ ha)⟩
      obtain ⟨h1, h2⟩ := ih _ nd
      refine ⟨h1, fun x => (h2 x).trans ?_⟩
      rw [List.mem_append, List.mem_singleton, List.mem_cons]
      constructor
      · rintro ((h | h) | h)
        · exact .inl h
        · exact .inr (.inl h)
        · exact .inr (.inr h)
      · rintro (h | h | h)
        · exact .inl (.inl h)
        · exact .inl (.inr h)
        · exact .inr h
theorem unl_nodup (l : List α) : (unl l).Nodup := (unl_go l [] List.nodup_nil).1
theorem mem_unl (l : List α) (x : α) : x ∈ unl l ↔ x ∈ l := ((unl_go l [] List.nodup_nil).2 x).trans (by simp)
theorem nodup_sub : ∀ {l m : List α}, l.Nodup → (∀ x ∈ l, x ∈ m) → l.length ≤ m.length
  | [], _, _, _ => Nat.zero_le
                          _
  | x :: l, m, hn, hs => by
    obtain ⟨h1, h2⟩ :=
                            List.nodup_cons.mp hn
    have hx : x ∈ m := hs x List.mem_cons_self
    have ih := nodup_sub (l := l) (m := m.erase x) h2 fun y hy => by
      have hne : y ≠ x := fun e => h1 (by rw [← e]; exact hy)
      exact (List.mem_erase_of_ne hne).2
                              (hs y (List.mem_cons_of_mem _ hy))
    have e :=
                            List.length_erase_of_mem hx
    have hp : 0 < m.length := List.length_pos_of_mem hx
    rw [List.length_cons]
    omega
theorem unl_len {l m : List α} (h : l.Nodup) (e : ∀ x, x ∈ l ↔ x ∈ m) : l.length = (unl m).length :=
  Nat.le_antisymm (nodup_sub h fun x hx => (mem_unl m x).mpr ((e x).mp hx)) (nodup_sub (unl_nodup m) fun x hx => (e x).mpr ((mem_unl m x).mp hx))
end
theorem unlike_eq (ns : List Int) : unlike ns = (unl ns).length := by
  unfold unlike
  refine unl_len ?_ fun x => ?_
  · have go : ∀ i, (firstMet (fun i => ns.getD i 0) i).Nodup := fun i => by
      induction i with
      | zero => exact List.nodup_nil
      | succ i ih =>
        rw [firstMet_succ]
        unfold step_dedup
        split
        · exact ih
        · rename_i c
          refine List.nodup_append.mpr ⟨ih, List.nodup_cons.mpr ⟨by simp, List.nodup_nil⟩, fun a ha b hb e => c ?_⟩
          rw [List.mem_singleton.mp hb] at e
          exact List.any_eq_true.mpr ⟨a, ha, by rw [e]; exact beq_self_eq_true _⟩
    exact go _
  · have h := firstMet_any (fun i => ns.getD i 0) ns.length x
    have e : (List.range ns.length).map (fun i => ns.getD i 0) = ns := List.ext_getElem (by simp) fun i h1 h2 => by simp [List.getD_eq_getElem?_getD, h2]
    rw [e] at h
    have m1 : x ∈ firstMet (fun i => ns.getD i 0) ns.length ↔ (firstMet (fun i => ns.getD i 0) ns.length).any (· == x) = true := by simp
    have m2 : x ∈ ns ↔ ns.any (· == x) = true := by simp
    rw [m1, m2, h]
/-- the rows of numbers that stand here -/
def rowsOf (h : Mh) : List U → Option (List (List Int))
  | [] => some []
  | u :: us => match seqOf u h with
    | some (false, xs) => match intsOf xs with
      | some ns => match rowsOf h us with
        | some r => some (ns :: r)
        | none => none
      | none => none
    | _ => none
def fLenSetE : U → Mh → R U := fun u h => match seqOf u h with
  | some (k, xs) => match intsOf xs with
    | some ns => if Nat.ble ns.length 60 then .ok (.int ((unl ns).length : Nat)) h else .stuck
    | none => match k with
      | true => match rowsOf h xs with
        | some ts => if Nat.ble ts.length 60 then .ok (.int ((unl ts).length : Nat)) h else .stuck
        | none => .stuck
      | false => .stuck
  | none => .stuck
def rLenSetE (K : PySem.W.Frag) : V → Hp → VK → Prop := fun x H Q => (∃ (a : Addr) (ns : List Int), x = .ref a ∧ (SqL K H a (ns.map V.int) ∨ SqT K H a (ns.map V.int)) ∧ ns.length ≤ 60 ∧ Q (.int ((unl ns).length : Nat)) H) ∨
  ∃ (a : Addr) (ks : List (Addr × List Int)), x = .ref a ∧ SqL K H a (ks.map fun p => V.ref p.1) ∧ (∀ p ∈ ks, SqT K H p.1 (p.2.map V.int)) ∧ ks.length ≤ 60 ∧ Q (.int ((unl (ks.map (·.2))).length : Nat)) H
section
variable {g : Gc}
theorem rows_rel {ρ : Wd} {h : Mh} {H : Hp} (cs : Cs g ρ h H) : ∀ {xs : List U} {vs : List V} {ts : List (List Int)}, Rls g ρ xs vs → rowsOf h xs = some ts → ∃ ks : List (Addr × List Int), vs = ks.map (fun p => V.ref p.1) ∧ ks.map (·.2) = ts ∧ ∀ p ∈ ks, SqT g.K H p.1 (p.2.map V.int)
  | [], _, _, .nil, e => by
    unfold rowsOf at e
    cases e
    exact ⟨[], rfl, rfl, fun p hp => by cases hp⟩
  | x :: xs, _, ts, .cons r rs, e => by
    unfold rowsOf at e
    split at e
    · rename_i ys es
      split at e
      · rename_i ns ei
        split at e
        · rename_i rt er
          cases e
          obtain ⟨a, vs, rfl, rv, _, h2⟩ := seq_ok cs r es
          have := ints_rel rv ei
          subst this
          obtain ⟨ks, rfl, rfl, k⟩ := rows_rel cs rs er
          exact ⟨(a, ns) :: ks, rfl, rfl, fun p hp => by
            rcases List.mem_cons.mp hp
                                    with rfl | hp
            · exact h2 rfl
            · exact k p hp⟩
        · cases e
      · cases e
    · cases e
theorem s_lenSetE {K : PySem.W.Frag} (hK : K = g.K := by assumption) : S1 g fLenSetE (rLenSetE K) := fun E ρ u v h H Q r cs p => by
  subst hK
  unfold fLenSetE at p
  split at p
  · rename_i k xs es
    obtain ⟨a, vs, rfl, rv, h1, h2⟩ := seq_ok cs r es
    split at p
    · rename_i ns ei
      have := ints_rel rv ei
      subst this
      by_cases hz : Nat.ble ns.length 60 = true
      · rw [if_pos hz] at p
        refine .inl ⟨a, ns, rfl, ?_, Nat.ble_eq.mp hz, Post.here (rel := Rl g) p cs rfl⟩
        cases k with
        | true => exact .inl (SqL.of (h1 rfl))
        | false => exact .inr (h2 rfl)
      · rw [if_neg hz] at p
        exact p.elim
    · split at p
      · split at p
        · rename_i ts er
          obtain ⟨ks, rfl, rfl, kk⟩ := rows_rel cs rv er
          by_cases hz : Nat.ble (ks.map (·.2)).length 60 = true
          · rw [if_pos hz] at p
            exact .inr ⟨a, ks, rfl, SqL.of (h1 rfl), kk, by simpa using Nat.ble_eq.mp hz, Post.here (rel := Rl g) p cs rfl⟩
          · rw [if_neg hz] at p
            exact p.elim
        · exact p.elim
      · exact p.elim
  · exact p.elim
end
section
variable {X : Cx} {g : Gc} {W : WX} {A : Me} {a : Expr} {ta : TE} {p p2 q pos : Pos}
theorem pe_lenSetE (hc : X.calm = true) (hu : X.A.units + 65 < cLine) (hg : Gl X "len") (hm : X.mg "len" = none) (hg2 : Gl X "set") (hm2 : X.mg "set" = none) (ha : PE X a ta) (na : starEach [a] X.env = (false, eval a X.env) :: starEach [] X.env := by rfl) :
    PE X (.Call (.Name "len" p) [.Call (.Name "set" p2) [a] [] q] [] pos) (fun σ H Q => ta σ H fun x H1 => rLenSetE X.K x H1 Q) := by
  constructor
  intro pins s σ H Q I w
  refine Call_ (ld_blt I hg hm PySem.boot_len (PyProof.Rows.callWith_builtin1 (PyProof.Rows.args_cons (Call_ (ld_blt I hg2 hm2 PyProof.Rows.boot_set ?inner) rfl) rfl) rfl rfl)) rfl
  refine PyProof.Rows.callWith_type1 (PyProof.Rows.args_cons (thn (ha.run pins s σ H _ I w) fun v t ⟨x, H1, J, rx, k⟩ => PyProof.Rows.args_nil ?_) na) na rfl
  rcases k with ⟨l, ns, ex, hq, few, y⟩ | ⟨l, ks, ex, hq, hk, few, y⟩
  · subst ex
    cases rx
    rcases hq with hq | hq
    · obtain ⟨its, rv, pl, _⟩ := J.list hq
      have size : its.toArray.size = ns.length := by rw [List.size_toArray, ← rv.length, List.length_map]
      refine call_set_list (J.ok.hd hc) pl.isList (ns := ns) (by simpa using rv.ints) (by unfold scanBound; omega) fun h' tk made kept => PyProof.Rows.args_nil ?_
      rw [size] at made
      obtain ⟨o, es, ep, tb, ho, hex, hd, _, _, _, hf, many⟩ := made
      have J2 : Inv X pins σ H1 { t with heap := h', toks := tk } := J.kept fun b o e => kept b o (Heap.lt_size e) e
      have le := firstMet_length_le (fun i => ns.getD i 0) ns.length
      refine call_len_set ho hex hd hf (by rw [many]; omega) ⟨.int ((unl ns).length : Nat), H1, J2.tok _, ⟨_, by rw [many, ← unlike_eq]; rfl⟩, y⟩
    · obtain ⟨its, rv, pl, _⟩ := J.tuple hq
      refine L2.call_set_tupI ns (J.ok.hd hc) pl (by simpa using rv.ints) (by unfold scanBound; omega) fun h' tk c made le kept => PyProof.Rows.args_nil ?_
      obtain ⟨o, es, ep, tb, ho, hex, hd, _, nd, mem, _, hf, many, _⟩ := made
      have J2 : Inv X pins σ H1 { t with heap := h', toks := tk } := J.kept kept
      have cz : c = (unl ns).length := by
        have e := unl_len nd (m := ns) fun x => (mem x).symm.trans (by simp)
        rw [List.length_map, Array.length_toList, many] at e
        exact e
      refine call_len_set ho hex hd hf (by rw [many]; omega) ⟨.int ((unl ns).length : Nat), H1, J2.tok _, ⟨_, by rw [many, cz]⟩, y⟩
  · subst ex
    cases rx
    obtain ⟨its, rv, pl, _⟩ := J.list hq
    refine L2.call_set_tups (P := X.prog) (w := X.w) ks (J.ok.hd hc) pl.isList (by simpa using L2.refs_of_vals rv) (fun p hp => J.isT (hk p hp)) (by omega) (by show X.A.units + _ < cLine; omega) fun h' tk L es ep tb made got kept => PyProof.Rows.args_nil ?_
    obtain ⟨o, ho, hex, hd⟩ := made.ob
    have J2 : Inv X pins σ H1 { t with heap := h', toks := tk } := J.kept kept
    have many : es.size = L.length := by
      have e := congrArg List.length made.rows
      rw [Array.length_toList] at e
      rw [e]
      exact List.length_map _
    have cz : es.size = (unl (ks.map (·.2))).length := by
      have e := unl_len made.nd (m := ks.map (·.2)) fun x => by
        constructor
        · intro hx
          obtain ⟨p, hp, rfl⟩ := List.mem_map.mp hx
          exact List.mem_map.mpr ⟨p, List.mem_of_mem_take (got.sub p hp), rfl⟩
        · intro hx
          obtain ⟨p, hp, rfl⟩ := List.mem_map.mp hx
          exact got.all p (by rw [List.take_length]; exact hp)
      rw [List.length_map] at e
      rw [many, e]
    have fw := made.few
    have ft : tb.fits es.size = true := L2.SetTR.fits (s := { t with heap := h', toks := tk }) made
    refine call_len_set ho hex hd ft (by rw [many]; omega) ⟨.int ((unl (ks.map (·.2))).length : Nat), H1, J2.tok _, ⟨_, by rw [cz]⟩, y⟩
theorem e_lenSetE (hK : X.K = g.K) (hc : X.calm = true) (hu : X.A.units + 65 < cLine) (hg : Gl X "len") (hm : X.mg "len" = none) (hg2 : Gl X "set") (hm2 : X.mg "set" = none) (ha : PE X a (T g W A)) (na : starEach [a] X.env = (false, eval a X.env) :: starEach [] X.env := by rfl) :
    PE X (.Call (.Name "len" p) [.Call (.Name "set" p2) [a] [] q] [] pos) (T g W (m1 fLenSetE A)) :=
  PE.im (pe_lenSetE hc hu hg hm hg2 hm2 ha na) fun _ _ _ y => at1 (s_lenSetE hK) y
end
end Vm

set_option Elab.async false
set_option linter.all false
set_option maxRecDepth 100000
set_option maxHeartbeats 4100000
namespace Vm
open L2 PyProof.Rows PySem PySem.Spec PySem.W
/-! ### sorted(xs), xs a list of data no two of which are equal -/
theorem sorted_one {α : Type} {lt le : α → α → Bool} (no : ∀ a b, lt a b = true → le b a = false) : ∀ {l m : List α}, l.Perm m → l.Pairwise (fun a b => lt a b = true) → m.Pairwise (fun a b => le a b = true) → l = m
  | [], m, p, _, _ => (List.nil_perm.mp p).symm
  | a :: l, [], p, _, _ => absurd (List.perm_nil.mp p) (by simp)
  | a :: l, b :: m, p, h, k => by
    obtain ⟨h1, h2⟩ :=
                            List.pairwise_cons.mp h
    obtain ⟨k1, k2⟩ := List.pairwise_cons.mp k
    have e : a = b := Classical.byContradiction fun ne => by
      have ha : a ∈ m := by
        rcases List.mem_cons.mp (p.mem_iff.mp List.mem_cons_self) with z | z
        · exact absurd z ne
        · exact z
      have hb : b ∈ l := by
        rcases List.mem_cons.mp (p.mem_iff.mpr List.mem_cons_self) with z | z
        · exact absurd z.symm ne
        · exact z
      have := no a b (h1 b hb)
      rw [k1 a ha] at this
      cases this
    subst e
    rw [sorted_one no (List.Perm.cons_inv p) h2 k2]
section
variable {α : Type}
def putBy (lt : α → α → Bool) (x : α) : List α → List α
  | [] => [x]
  | y :: l => if lt y x then y :: putBy lt x l else x :: y :: l
def sortBy (lt : α → α → Bool) : List α → List α
  | [] => []
  | x :: l => putBy lt x (sortBy lt l)
def riseBy (lt : α → α → Bool) : List α → Bool
  | [] => true
  | x :: l => l.all (lt x) && riseBy lt l
theorem putBy_perm (lt : α → α → Bool) (x : α) : ∀ l, (putBy lt x l).Perm (x :: l)
  | [] => .refl _
  | y :: l => by
    unfold putBy
    split
    · exact ((putBy_perm lt x l).cons y).trans (.swap x y l)
    · exact .refl _
theorem sortBy_perm (lt : α → α → Bool) : ∀ l, (sortBy lt l).Perm l
  | [] => .refl _
  | x :: l => (putBy_perm lt x _).trans ((sortBy_perm lt l).cons x)
theorem riseBy_ok {lt : α → α → Bool} : ∀ {l}, riseBy lt l = true → l.Pairwise (fun a b => lt a b = true)
  | [], _ => .nil
  | x :: l, h => by
    unfold riseBy at h
    rw [Bool.and_eq_true, List.all_eq_true] at h
    exact .cons h.1 (riseBy_ok h.2)
end
/-- what sorted can be asked of -/
def rankable : List PyData → Bool
  | ds => ds.all (fun d => ds.all (fun e => alike d e) && decide (d.depth ≤ 10)) && (ds.all (fun d => match d with
      | .tuple (_ :: _) => true
      | _ => false) || ds.all (fun d => match d with
      | .none => false
      | .tuple _ => false
      | _ => true)) && decide (ds.length ≤ 1000)
theorem rank_ok {ds : List PyData} (h : rankable ds = true) : AllAlike ds ∧ Sortable ds ∧ ds.length ≤ 1000 ∧ ∀ d ∈ ds, d.depth ≤ 10 := by
  unfold rankable at h
  rw [Bool.and_eq_true, Bool.and_eq_true, Bool.or_eq_true] at h
  obtain ⟨⟨h1, h2⟩, h3⟩ := h
  refine ⟨fun d hd e he => ?_, ?_, of_decide_eq_true h3, fun d hd => ?_⟩
  · have z := List.all_eq_true.mp h1 d hd
    rw [Bool.and_eq_true] at z
    exact List.all_eq_true.mp z.1 e he
  · rcases h2 with h2 | h2
    · refine .inl fun d hd => ?_
      have z := List.all_eq_true.mp h2 d hd
      split at z
      · exact ⟨_, _, rfl⟩
      · cases z
    · refine .inr fun d hd => ?_
      have z := List.all_eq_true.mp h2 d hd
      split at z
      · cases z
      · cases z
      · rename_i n1 n2
        exact ⟨fun e => n1 e, fun xs e => n2 xs e⟩
  · have z := List.all_eq_true.mp h1 d hd
    rw [Bool.and_eq_true] at z
    exact of_decide_eq_true z.2
def fSorted : List U → Mh → R U := fun us h => match us with
  | [x] => match seqOf x h with
    | some (true, xs) => match pdsOf xs with
      | some ds => if rankable ds && riseBy (fun p q : U × PyData => dataLt p.2 q.2) (sortBy (fun p q : U × PyData => dataLt p.2 q.2) (xs.zip ds)) then newL ((sortBy (fun p q : U × PyData => dataLt p.2 q.2) (xs.zip ds)).map (·.1)) h else .stuck
      | none => .stuck
    | _ => .stuck
  | _ => .stuck
def rSortD (K : PySem.W.Frag) : List V → Hp → VK → Prop := fun xs H Q => ∃ (a : Addr) (bs : List (V × PyData)), xs = [.ref a] ∧ SqL K H a (bs.map (·.1)) ∧ (∀ p ∈ bs, Dp K H p.1 p.2) ∧ AllAlike (bs.map (·.2)) ∧ Sortable (bs.map (·.2)) ∧ bs.length ≤ 1000 ∧ (∀ p ∈ bs, p.2.depth ≤ 10) ∧
  ∀ p, H p = none → Q (.ref p) (upd H p (.lst ((bs.mergeSort (dataLe false (·.2))).map (·.1))))
theorem vals_each : ∀ {bs : List (V × PyData)} {us : List Value}, Vals (bs.map (·.1)) us → EachIs (fun v (b : V × PyData) => RelV b.1 v) us bs
  | [], _, .nil => .nil
  | b :: bs, _, .cons r t => .cons r (vals_each t)
theorem each_vals : ∀ {bs : List (V × PyData)} {us : List Value}, EachIs (fun v (b : V × PyData) => RelV b.1 v) us bs → Vals (bs.map (·.1)) us
  | _, _, .nil => .nil
  | _, _, .cons r t => .cons r (each_vals t)
section
variable {X : Cx} {g : Gc}
theorem cr_sortD (hu : X.A.units + 65 < cLine) : CallR X (.builtin "sorted") (rSortD X.K) := by
  intro pins s σ H xs us Q I r
                          q
  obtain ⟨a, bs, rfl, hs, hd, al, so, few, dp, q⟩ := q
  rw [Vals.ref1 r]
  obtain ⟨its, rv, hl, hz⟩ :=
                          I.list hs
  have ev := vals_each rv
  have er : EachIs (fun v (b : V × PyData) => ∃ as, Reads s.heap v b.2 as) its bs := (each_mem ev).mono fun v b ⟨r, hb⟩ => Dp.reads I b.2 b.1 v (hd b hb) r
  refine sorted_data (enc := fun b : V × PyData => b.2) (R := fun v (b : V × PyData) => RelV b.1 v) hl.isList ev er al so (by rw [sizeLine_eq]; omega) (fun b hb => by have := dp b hb; omega) fun out ho eo => ?_
  obtain ⟨ep, he'⟩ :=
                          PyProof.Rows.sortedAll_at s.heap its out.toArray
  have hlen : ((bs.mergeSort (dataLe false (·.2))).map (·.1)).length ≤ sizeLine := by
    rw [List.length_map, List.length_mergeSort, sizeLine_eq]; omega
  exact ⟨.ref _, upd H (s.heap.objs.size + 1) (.lst ((bs.mergeSort (dataLe false (·.2))).map (·.1))), I.laid (t' := s.toks) (fun _ _ => PyProof.Rows.sortedAll_old) (Nat.le_succ _) ⟨hlen, out, ep, each_vals eo, he'⟩, rfl, q _ (I.hok.fresh (Nat.le_succ _))⟩
theorem rls_zip {ρ : Wd} : ∀ {xs : List U} {vs : List V} {ds : List PyData}, Rls g ρ xs vs → pdsOf xs = some ds → ∃ ts : List (U × V × PyData), ts.map (·.1) = xs ∧ ts.map (·.2.1) = vs ∧ ts.map (·.2.2) = ds ∧ xs.zip ds = ts.map (fun t => (t.1, t.2.2)) ∧ (∀ t ∈ ts, Rl g ρ t.1 t.2.1 ∧ pdOf t.1 = some t.2.2)
  | [], _, ds, .nil, e => by
    cases e
    exact ⟨[], rfl, rfl, rfl, rfl, fun t ht => by cases ht⟩
  | x :: xs, v :: vs, ds, .cons r rs, e => by
    unfold pdsOf at e
    split at e
    · rename_i d e1
      split at e
      · rename_i dt e2
        cases e
        obtain ⟨ts, rfl, rfl, rfl, h4, h5⟩ := rls_zip rs e2
        refine ⟨(x, v, d) :: ts, rfl, rfl, rfl, ?_, fun t ht => ?_⟩
        · rw [List.zip_cons_cons, List.map_cons, h4]
        · rcases List.mem_cons.mp ht with rfl | ht
          · exact ⟨r, e1⟩
          · exact h5 t ht
      · cases e
    · cases e
theorem rls_of {ρ : Wd} : ∀ {ts : List (U × V × PyData)}, (∀ t ∈ ts, Rl g ρ t.1 t.2.1) → Rls g ρ (ts.map (·.1)) (ts.map (·.2.1))
  | [], _ => .nil
  | t :: ts, h => .cons (h t List.mem_cons_self) (rls_of fun u hu => h u (List.mem_cons_of_mem _ hu))
theorem pd_dp {ρ : Wd} {h : Mh} {H : Hp} (cs : Cs g ρ h H) {u : U} {v : V} {d : PyData} (r : Rl g ρ u v) (e : pdOf u = some d) : Dp g.K H v d := by
  have k : rd h 1 u = some d := by
    cases u with
    | non => cases e; rfl
    | bl b => cases e; rfl
    | int b => cases e; rfl
    | str b => cases e; rfl
    | dat d' => cases e; rfl
    | loc n => cases e
    | scr => cases e
    | exn => cases e
    | obj c fs => cases e
    | pr ds => cases e
  exact rd_dp cs 1 u v d r k
theorem s_sorted {K : PySem.W.Frag} (hK : K = g.K := by assumption) : SL g fSorted (rSortD K) := fun E ρ xs vs h H Q r cs p => by
  subst hK
  unfold fSorted at p
  split at p
  · obtain ⟨v, rfl, r1⟩ := one_of r
    split at p
    · rename_i us es
      obtain ⟨a, vs, rfl, rv, h1, _⟩ := seq_ok cs r1 es
      split at p
      · rename_i ds ed
        obtain ⟨ts, rfl, rfl, rfl, h4, h5⟩ := rls_zip rv ed
        rw [h4] at p
        split at p
        · rename_i c
          rw [Bool.and_eq_true] at c
          obtain ⟨c1, c2, c3, c4⟩ := rank_ok c.1
          have e2 : ts.map (·.2.2) = (ts.map (·.2)).map (·.2) := by rw [List.map_map]; rfl
          refine ⟨a, ts.map (·.2), rfl, ?_, fun q hq => ?_, e2 ▸ c1, e2 ▸ c2, by simpa using c3, fun q hq => ?_, fun q hq => ?_⟩
          · rw [List.map_map]; exact SqL.of (h1 rfl)
          · obtain ⟨t, ht, rfl⟩ := List.mem_map.mp hq
            exact pd_dp cs (h5 t ht).1 (h5 t ht).2
          · obtain ⟨t, ht, rfl⟩ := List.mem_map.mp hq
            exact c4 _ (List.mem_map.mpr ⟨t, ht, rfl⟩)
          · have m1 : (ts.mergeSort (dataLe false (·.2.2))).map (·.2) = (ts.map (·.2)).mergeSort (dataLe false (·.2)) := sort_maps _ fun a _ b _ => rfl
            have m2 : (ts.mergeSort (dataLe false (·.2.2))).map (fun t => (t.1, t.2.2)) = (ts.map (fun t => (t.1, t.2.2))).mergeSort (dataLe false (fun p : U × PyData => p.2)) := sort_maps _ fun a _ b _ => rfl
            have m3 : sortBy (fun p q : U × PyData => dataLt p.2 q.2) (ts.map (fun t => (t.1, t.2.2))) = (ts.map (fun t => (t.1, t.2.2))).mergeSort (dataLe false (fun p : U × PyData => p.2)) :=
              sorted_one (lt := fun p q : U × PyData => dataLt p.2 q.2) (le := dataLe false (fun p : U × PyData => p.2)) (fun a b z => by
                rw [dataLe_eq]
                show (!dataLt a.2 b.2) = false
                rw [z]; rfl) ((sortBy_perm _ _).trans (List.mergeSort_perm _ _).symm) (riseBy_ok c.2) (sort_pairwise (sortLe_total _ _ _) _)
            rw [m3, ← m2, List.map_map] at p
            rw [← m1, List.map_map]
            have rr : Rls g ρ ((ts.mergeSort (dataLe false (·.2.2))).map (·.1)) ((ts.mergeSort (dataLe false (·.2.2))).map (·.2.1)) := rls_of fun t ht => (h5 t (List.mem_mergeSort.mp ht)).1
            exact newL_ok rr p cs hq
        · exact p.elim
      · exact p.elim
    · exact p.elim
  · exact p.elim
end
end Vm

set_option Elab.async false
set_option linter.all false
set_option maxRecDepth 100000
set_option maxHeartbeats 4100000
namespace Vm
open L2 PyProof.Rows PySem PySem.Spec
/-! ### a tuple, no time -/
theorem tuple_mul0W (l : Addr) (items : Array Value) (n : Nat) (dd : Option Addr) (sl : Array (Option Value)) (u : Tok) (c1 : (items.isEmpty || (0 : Int) == 1) = false) :
    Meets (Builtin.«tuple.__mul__» ⟨[.ref l, .int 0 u], []⟩) (fun _ R s => s.heap.get? l = some { cls := .type "tuple", dict := dd, data := .seq items n, slots := sl } ∧
      R (.ok (.ret (Value.ref s.heap.objs.size))) { s with heap := s.heap.push { cls := Value.type "tuple", data := Data.seq #[] }, toks := s.toks }) :=
  .of_wp fun prog
                  w A R s h => by
    obtain ⟨hp, g,
                   d, tk, os⟩ := s
    obtain ⟨hl, h⟩ := h
    have f1 := AutoSeq1.idx_int
    wp_walk using
                  wpAny_loadPart' hl
    repeat (first
      | (refine wpAny_ite_false (by decide) ?_; wp_walk using wpAny_loadPart' hl)
      | (refine wpAny_ite_false (decide_eq_false (by rw [c1]; exact Bool.false_ne_true))
                          ?_; wp_walk using wpAny_loadPart' hl)
      | (refine wpAny_ite_true (by simp) ?_; wp_walk using wpAny_loadPart' hl))
    exact ⟨_, rfl, h⟩
def rRep0 (K : PySem.W.Frag) : R2 := fun x y H Q => ∃ l xs, x = .ref l ∧ y = .int 0 ∧ SqT K H l xs ∧ xs ≠ [] ∧ ∀ p o, o.dict = none → H p = none → Q (.ref p) (upd H p (.frz o (.tup [])))
section
variable {X : Cx} {g : Gc}
theorem op_rep0 : OpR X (binaryOp .Mult) (rRep0 X.K) := by
  intro pins s σ H x
                     y v u Q I rx ry h
  obtain ⟨l, xs, rfl, rfl, hT, hne, q⟩ := h
  cases rx
  obtain ⟨t, rfl⟩ := ry
  obtain ⟨its, r, ⟨⟨cls, dd, data, sl⟩,
                                        ho, hc, n, hd⟩, hs⟩ := I.tuple hT
  simp only at hc hd
  subst hc hd
  have hi : its.toArray.isEmpty = false :=
                          by
    cases its with
    | nil =>
      cases r
      exact absurd rfl hne
    | cons a b => rfl
  refine wpAny_binaryOp_repeat_ref (T := "tuple") (U := "int") (by decide) ⟨_, ho, rfl⟩ (fun s' => typeIs_int s' 0 t) noFill_tuple_mul F.fills_int_mul F.slot_int_rmul repeat_tuple F.slot_int_index.lookup
    (call_meets F.slot_int_rmul (typeIs_int s 0 t) F.entry_int_rmul (F.args_int_rmul_2 _ _) (int_rmul_tuple 0 t l its.toArray n dd sl)
      ⟨ho, rfl, ⟨_, ho, rfl⟩, call_meets F.slot_tuple_mul ⟨_, ho, rfl⟩ F.entry_tuple_mul (F.args_tuple_mul_2 _ _) (tuple_mul0W l its.toArray n dd sl t (by rw [hi]; rfl)) ⟨ho, ?_⟩⟩)
  refine ⟨.ref s.heap.objs.size, _, I.laid (t' := s.toks) (o := .frz { cls := Value.type "tuple", data := Data.seq #[] } (.tup [])) (fun b ob q => Heap.get?_push_of_some _ q) (Nat.le_refl _) ?_, rfl, q _ _ rfl (I.hok.fresh (Nat.le_refl _))⟩
  exact ⟨Heap.get?_push_size _ rfl, ⟨Nat.zero_le _, [], .nil, ⟨_, Heap.get?_push_size _ rfl, rfl, _, rfl⟩⟩⟩
abbrev rMulF (K : PySem.W.Frag) : R2 := fun x y H Q => rMulE K x y H Q ∨ rRep0 K x y H Q
theorem o_mulF : OpR X (binaryOp .Mult) (rMulF X.K) := OpR.or o_mulE op_rep0
def fMulF : F2 := fun x y h => match y with
  | .int k => if k = 0 then (match seqOf x h with
    | some (false, _ :: _) => newT [] h
    | _ => fMulE x y h) else fMulE x y h
  | _ => fMulE x y h
theorem s_mulF {K : PySem.W.Frag} (hK : K = g.K := by assumption) : S2 g fMulF (rMulF K) := fun E ρ x y vx vy h H Q rx ry cs p => by
  unfold fMulF at p
  split at p
  · rename_i k
    by_cases hk : k = 0
    · rw [if_pos hk] at p
      split at p
      · rename_i z zs es
        subst hk hK
        obtain ⟨a, vs, rfl, rv, _, ha⟩ := seq_ok cs rx es
        refine .inr ⟨a, vs, rfl, ry, ha rfl, (fun e => by rw [e] at rv; cases rv), fun q o ho hq => newT_ok .nil p cs ho hq⟩
      · exact .inl (s_mulE hK E ρ x _ vx vy h H Q rx ry cs p)
    · rw [if_neg hk] at p
      exact .inl (s_mulE hK E ρ x _ vx vy h H Q rx ry cs p)
  · exact .inl (s_mulE hK E ρ x y vx vy h H Q rx ry cs p)
end
end Vm

set_option Elab.async false
set_option linter.all false
set_option maxRecDepth 100000
set_option maxHeartbeats 4100000
namespace Law
open PySem PySem.Spec PyProof.Rows L2 Vm

theorem len1 {L : Ml} {n : Nat} (h : ∀ s h xs h', L s h = .ok xs h' → xs.length = n) : ∀ s h xs h', L s h = .ok xs h' → xs.length + 1 = n + 1 := fun s hh xs h' e => congrArg (· + 1) (h s hh xs h' e)
def topS (i : Nat) : Stmt := PySem.Challenge.pw_unlikehands_k07_rules_kept.main.body.getD i (.Pass ⟨0, 0, 0, 0⟩)
abbrev st_law_no_patterns : Stmt := topS 41
abbrev N_law_no_patterns : List Str := ["many", "one", "last"]
def m_law_no_patterns (B_ns : List Int) : Ms := sSeq (sPar 1 2 (lC (m2 fMulF (mTd (lC (mC (.int 0)) (lN))) (mV 0)) (lC (m2 fAddD (m2 fMulF (mTd (lC (mC (.int 0)) (lN))) (m2 fSub (mV 0) (mC (.int 1)))) (mTd (lC (mC (.int 1)) (lN)))) (lN))))
    (sRet (mLd (lC (mTd (lC (m2 fMulF (mTd (lC (mC (.int 1)) (lN))) (mV 0)) (lC (mV 1) (lN)))) (lC (mTd (lC (mV 1) (lC (mV 2) (lN)))) (lC (mTd (lC (m2 fMulF (mTd (lC (mC (.bl false)) (lN))) (mV 0)) (lC (mV 1) (lN)))) (lC (mTd (lC (mV 1) (lC (m2 fMulF (mTd (lC (mC .non) (lN))) (mV 0)) (lN)))) (lC (mTd (lC (mV 1) (lC (m2 fMulF (mTd (lC (m1 fNeg (mC (.int 1))) (lN))) (mV 0)) (lN)))) (lN))))))))
def p_law_no_patterns (B_ns : List Int) : List U → P0 := pfn 3 (m_law_no_patterns B_ns)
def d_law_no_patterns (B_ns : List Int) : List U → Mh → R U := runP (p_law_no_patterns B_ns)
abbrev st_p_holds : Stmt := topS 17
abbrev N_p_holds : List Str := ["steps", "fact", "pattern", "row", "is_linked", "kind", "one", "other", "hands", "groups"]
def m_p_holds (B_ns : List Int) : Ms := sSeq (sAsg (mV 1) (gtD 3 (gtCons (gtN 5) (gtCons (gtN 6) (gtCons (gtN 7) (gtNil))))))
    (sSeq (sAsg (mV 2) (gtD 2 (gtCons (gtN 8) (gtCons (gtN 9) (gtNil)))))
    (sSeq (sAsg (mIf (bV (m2 fIn (mV 5) (mTd (lC (mC (.str "near")) (lC (mC (.str "far")) (lN)))))) (mV 9) (mV 8)) (gtN 3))
    (sSeq (sAsg (m2 fEq (m2 (fIxD B_ns) (mV 3) (mMtK fIndex fIndexT (mV 0) (lC (mV 6) (lN)))) (m2 (fIxD B_ns) (mV 3) (mMtK fIndex fIndexT (mV 0) (lC (mV 7) (lN))))) (gtN 4))
    (sRet (mIf (bV (m2 fIn (mV 5) (mC (.dat (.tuple ((["near", "same"] : List Str).map PyData.str)))))) (mV 4) (mNotV (mV 4)))))))
def p_p_holds (B_ns : List Int) : List U → P0 := pfn 10 (m_p_holds B_ns)
def d_p_holds (B_ns : List Int) : List U → Mh → R U := runP (p_p_holds B_ns)
abbrev st_p_kept_in : Stmt := topS 26
abbrev N_p_kept_in : List Str := ["steps", "rule", "pattern", "row", "found", "unlike", "kind", "chosen", "many", "hands", "groups", "step", "number"]
def m_p_kept_in (B_ns : List Int) (rec : List U → Mh → R U) : Ms := sSeq (sIf (bV (m2 fEq (m2 (fIxD B_ns) (mV 1) (mC (.int 0))) (mC (.str "if")))) (sRet (mOrV (mNotV (mCall (d_p_holds B_ns)  (lC (mV 0) (lC (m2 (fIxD B_ns) (mV 1) (mC (.int 1))) (lC (mV 2) (lN)))))) (mCall rec  (lC (mV 0) (lC (m2 (fIxD B_ns) (mV 1) (mC (.int 2))) (lC (mV 2) (lN))))))) (sPass))
    (sSeq (sIf (bV (m1 (fInG [("far", "near"), ("near", "far"), ("same", "unlike"), ("unlike", "same")] false) (m2 (fIxD B_ns) (mV 1) (mC (.int 0))))) (sRet (mCall (d_p_holds B_ns)  (lC (mV 0) (lC (mV 1) (lC (mV 2) (lN)))))) (sPass))
    (sSeq (sAsg (mV 1) (gtD 3 (gtCons (gtN 6) (gtCons (gtN 7) (gtCons (gtN 8) (gtNil))))))
    (sSeq (sAsg (mV 2) (gtD 2 (gtCons (gtN 9) (gtCons (gtN 10) (gtNil)))))
    (sSeq (sAsg (mIf (bV (m2 fIn (mV 6) (mC (.dat (.tuple ((["least groups", "most groups"] : List Str).map PyData.str)))))) (mV 10) (mV 9)) (gtN 3))
    (sSeq (sAsg (mLcF (wSeq (mV 7)) (gtN 11) (bYes) (m2 (fIxD B_ns) (mV 3) (mMtK fIndex fIndexT (mV 0) (lC (mV 11) (lN)))) [11]) (gtN 4))
    (sSeq (sIf (bV (m2 fEq (mV 6) (mC (.str "each")))) (sRet (mBt (fAllD) (lC (mLcF (wSeq (mV 4)) (gtN 12) (bYes) (m2 fLe (mMtLD fCount (mV 4) (lC (mV 12) (lN))) (mV 8)) [12]) (lN)))) (sPass))
    (sSeq (sAsg (m1 fLenSetE (mV 4)) (gtN 5))
    (sRet (mIf (bV (m2 fIn (mV 6) (mTd (lC (mC (.str "most")) (lC (mC (.str "most groups")) (lN)))))) (m2 fLe (mV 5) (mV 8)) (m2 fGe (mV 5) (mV 8)))))))))))
def r_p_kept_in (B_ns : List Int) : Nat → List U → P0
  | 0 => fun _ => .stuck
  | n + 1 => pfn 13 (m_p_kept_in B_ns (runP (r_p_kept_in B_ns n)))
def p_p_kept_in (B_ns : List Int) : List U → P0 := r_p_kept_in B_ns 2
def d_p_kept_in (B_ns : List Int) : List U → Mh → R U := runP (p_p_kept_in B_ns)
abbrev st_p_numbered : Stmt := topS 9
abbrev N_p_numbered : List Str := ["things", "met", "row", "thing"]
def m_p_numbered (B_ns : List Int) : Ms := sSeq (sAsg (mL (lN)) (gtN 1))
    (sSeq (sAsg (mL (lN)) (gtN 2))
    (sSeq (sForF (wSeq (mV 0)) (gtN 3) (sSeq (sIf (bV (m2 fNotIn (mV 3) (mV 1))) (sE (mMtL fAppend (mV 1) (lC (mV 3) (lN)))) (sPass))
    (sE (mMtL fAppend (mV 2) (lC (mMtK fIndex fIndexT (mV 1) (lC (mV 3) (lN))) (lN))))))
    (sSeq (sFrz 2) (sRet (mBt (fTupD) (lC (mV 2) (lN)))))))
def p_p_numbered (B_ns : List Int) : List U → P0 := pfn 4 (m_p_numbered B_ns)
def d_p_numbered (B_ns : List Int) : List U → Mh → R U := runP (p_p_numbered B_ns)
abbrev st_p_is_integer : Stmt := topS 8
abbrev N_p_is_integer : List Str := ["value"]
def m_p_is_integer (B_ns : List Int) : Ms := sRet (mAndV (m1 (fIsi "int") (mV 0)) (mNotV (m1 (fIsi "bool") (mV 0))))
def p_p_is_integer (B_ns : List Int) : List U → P0 := pfn 1 (m_p_is_integer B_ns)
def d_p_is_integer (B_ns : List Int) : List U → Mh → R U := runP (p_p_is_integer B_ns)
abbrev st_is_numbering : Stmt := topS 10
abbrev N_is_numbering : List Str := ["many", "value", "number"]
def m_is_numbering (B_ns : List Int) : Ms := sSeq (sIf (bOr (bNot (bT (m1 (fIsi "tuple") (mV 1)))) (bV (m2 fNe (mBt (fLenD B_ns) (lC (mV 1) (lN))) (mV 0)))) (sRet (mC (.bl false))) (sPass))
    (sRet (mAndV (mBt (fAllD) (lC (mLcF (wSeq (mV 1)) (gtN 2) (bYes) (mCall (d_p_is_integer B_ns)  (lC (mV 2) (lN))) [2]) (lN))) (m2 fEq (mV 1) (mCall (d_p_numbered B_ns)  (lC (mV 1) (lN))))))
def p_is_numbering (B_ns : List Int) : List U → P0 := pfn 3 (m_is_numbering B_ns)
def d_is_numbering (B_ns : List Int) : List U → Mh → R U := runP (p_is_numbering B_ns)
abbrev st_p_is_pattern : Stmt := topS 11
abbrev N_p_is_pattern : List Str := ["many", "value", "hands", "groups", "at", "hand"]
def m_p_is_pattern (B_ns : List Int) : Ms := sSeq (sIf (bOr (bNot (bT (m1 (fIsi "tuple") (mV 1)))) (bV (m2 fNe (mBt (fLenD B_ns) (lC (mV 1) (lN))) (mC (.int 2))))) (sRet (mC (.bl false))) (sPass))
    (sSeq (sAsg (mV 1) (gtD 2 (gtCons (gtN 2) (gtCons (gtN 3) (gtNil)))))
    (sSeq (sIf (bOr (bNot (bT (mCall (d_is_numbering B_ns)  (lC (mV 0) (lC (mV 2) (lN)))))) (bNot (bT (mCall (d_is_numbering B_ns)  (lC (mV 0) (lC (mV 3) (lN))))))) (sRet (mC (.bl false))) (sPass))
    (sRet (mBt (fAllD) (lC (mLcF (wEnum (lC (mV 2) (lN))) (gtD 2 (gtCons (gtN 4) (gtCons (gtN 5) (gtNil)))) (bYes) (m2 fEq (m2 (fIxD B_ns) (mV 3) (mV 4)) (m2 (fIxD B_ns) (mV 3) (mMtK fIndex fIndexT (mV 2) (lC (mV 5) (lN))))) [4, 5]) (lN))))))
def p_p_is_pattern (B_ns : List Int) : List U → P0 := pfn 6 (m_p_is_pattern B_ns)
def d_p_is_pattern (B_ns : List Int) : List U → Mh → R U := runP (p_p_is_pattern B_ns)
abbrev st_p_check_pattern : Stmt := topS 16
abbrev N_p_check_pattern : List Str := ["steps", "pattern"]
def m_p_check_pattern (B_ns : List Int) : Ms := sIf (bNot (bT (mCall (d_p_is_pattern B_ns)  (lC (mBt (fLenD B_ns) (lC (mV 0) (lN))) (lC (mV 1) (lN)))))) (sRaise0 2) (sPass)
def p_p_check_pattern (B_ns : List Int) : List U → P0 := pfn 2 (m_p_check_pattern B_ns)
def d_p_check_pattern (B_ns : List Int) : List U → Mh → R U := runP (p_p_check_pattern B_ns)
abbrev st_p_are_unlike_steps : Stmt := topS 6
abbrev N_p_are_unlike_steps : List Str := ["steps", "value", "at", "step"]
def m_p_are_unlike_steps (B_ns : List Int) : Ms := sSeq (sIf (bOr (bNot (bT (m1 (fIsi "tuple") (mV 1)))) (bV (m2 fGt (mBt (fLenD B_ns) (lC (mV 1) (lN))) (mBt (fLenD B_ns) (lC (mV 0) (lN)))))) (sRet (mC (.bl false))) (sPass))
    (sRet (mBt (fAllD) (lC (mLcF (wEnum (lC (mV 1) (lN))) (gtD 2 (gtCons (gtN 2) (gtCons (gtN 3) (gtNil)))) (bYes) (mAndV (m2 fIn (mV 3) (mV 0)) (m2 fNotIn (mV 3) (mSlD (mV 1) (oN) (oS (mV 2))))) [2, 3]) (lN))))
def p_p_are_unlike_steps (B_ns : List Int) : List U → P0 := pfn 4 (m_p_are_unlike_steps B_ns)
def d_p_are_unlike_steps (B_ns : List Int) : List U → Mh → R U := runP (p_p_are_unlike_steps B_ns)
abbrev st_is_count : Stmt := topS 22
abbrev N_is_count : List Str := ["steps", "value", "kind", "chosen", "many", "step"]
def m_is_count (B_ns : List Int) : Ms := sSeq (sAsg (mV 1) (gtD 3 (gtCons (gtN 2) (gtCons (gtN 3) (gtCons (gtN 4) (gtNil))))))
    (sSeq (sIf (bOr (bV (m2 fNotIn (mV 2) (mC (.dat (.tuple ((["each", "least", "least groups", "most", "most groups"] : List Str).map PyData.str)))))) (bOr (bNot (bT (mCall (d_p_is_integer B_ns)  (lC (mV 4) (lN))))) (bNot (bV (mChain fLe fLe (mC (.int 0)) (mV 4) (mC (.int 6))))))) (sRet (mC (.bl false))) (sPass))
    (sSeq (sIf (bOr (bNot (bT (mCall (d_p_are_unlike_steps B_ns)  (lC (mV 0) (lC (mV 3) (lN)))))) (bNot (bT (mV 3)))) (sRet (mC (.bl false))) (sPass))
    (sRet (m2 fEq (mV 3) (mBt (fTupD) (lC (mLcF (wSeq (mV 0)) (gtN 5) (bV (m2 fIn (mV 5) (mV 3))) (mV 5) [5]) (lN)))))))
def p_is_count (B_ns : List Int) : List U → P0 := pfn 6 (m_is_count B_ns)
def d_is_count (B_ns : List Int) : List U → Mh → R U := runP (p_is_count B_ns)
abbrev st_p_is_fact : Stmt := topS 15
abbrev N_p_is_fact : List Str := ["steps", "value", "kind", "one", "other"]
def m_p_is_fact (B_ns : List Int) : Ms := sSeq (sIf (bOr (bNot (bT (m1 (fIsi "tuple") (mV 1)))) (bV (m2 fNe (mBt (fLenD B_ns) (lC (mV 1) (lN))) (mC (.int 3))))) (sRet (mC (.bl false))) (sPass))
    (sSeq (sAsg (mV 1) (gtD 3 (gtCons (gtN 2) (gtCons (gtN 3) (gtCons (gtN 4) (gtNil))))))
    (sSeq (sIf (bOr (bNot (bT (m1 (fIsi "str") (mV 2)))) (bV (m1 (fInG [("far", "near"), ("near", "far"), ("same", "unlike"), ("unlike", "same")] true) (mV 2)))) (sRet (mC (.bl false))) (sPass))
    (sRet (mAndV (m2 fIn (mV 3) (mV 0)) (mAndV (m2 fIn (mV 4) (mV 0)) (m2 fLt (mMtK fIndex fIndexT (mV 0) (lC (mV 3) (lN))) (mMtK fIndex fIndexT (mV 0) (lC (mV 4) (lN)))))))))
def p_p_is_fact (B_ns : List Int) : List U → P0 := pfn 5 (m_p_is_fact B_ns)
def d_p_is_fact (B_ns : List Int) : List U → Mh → R U := runP (p_p_is_fact B_ns)
abbrev st_is_plain_rule : Stmt := topS 23
abbrev N_is_plain_rule : List Str := ["steps", "value"]
def m_is_plain_rule (B_ns : List Int) : Ms := sSeq (sIf (bOr (bNot (bT (m1 (fIsi "tuple") (mV 1)))) (bV (m2 fNe (mBt (fLenD B_ns) (lC (mV 1) (lN))) (mC (.int 3))))) (sRet (mC (.bl false))) (sPass))
    (sRet (mOrV (mCall (d_p_is_fact B_ns)  (lC (mV 0) (lC (mV 1) (lN)))) (mCall (d_is_count B_ns)  (lC (mV 0) (lC (mV 1) (lN))))))
def p_is_plain_rule (B_ns : List Int) : List U → P0 := pfn 2 (m_is_plain_rule B_ns)
def d_is_plain_rule (B_ns : List Int) : List U → Mh → R U := runP (p_is_plain_rule B_ns)
abbrev st_p_is_rule : Stmt := topS 24
abbrev N_p_is_rule : List Str := ["steps", "value"]
def m_p_is_rule (B_ns : List Int) : Ms := sSeq (sIf (bOr (bNot (bT (m1 (fIsi "tuple") (mV 1)))) (bOr (bV (m2 fNe (mBt (fLenD B_ns) (lC (mV 1) (lN))) (mC (.int 3)))) (bV (m2 fNe (m2 (fIxD B_ns) (mV 1) (mC (.int 0))) (mC (.str "if")))))) (sRet (mCall (d_is_plain_rule B_ns)  (lC (mV 0) (lC (mV 1) (lN))))) (sPass))
    (sRet (mAndV (mCall (d_p_is_fact B_ns)  (lC (mV 0) (lC (m2 (fIxD B_ns) (mV 1) (mC (.int 1))) (lN)))) (mCall (d_is_plain_rule B_ns)  (lC (mV 0) (lC (m2 (fIxD B_ns) (mV 1) (mC (.int 2))) (lN))))))
def p_p_is_rule (B_ns : List Int) : List U → P0 := pfn 2 (m_p_is_rule B_ns)
def d_p_is_rule (B_ns : List Int) : List U → Mh → R U := runP (p_p_is_rule B_ns)
abbrev st_p_check_rules : Stmt := topS 25
abbrev N_p_check_rules : List Str := ["steps", "rules", "number", "rule"]
def m_p_check_rules (B_ns : List Int) : Ms := sSeq (sIf (bNot (bT (m1 (fIsi "list") (mV 1)))) (sRaise0 1) (sPass))
    (sForF (wEnum (lC (mV 1) (lN))) (gtD 2 (gtCons (gtN 2) (gtCons (gtN 3) (gtNil)))) (sIf (bNot (bT (mCall (d_p_is_rule B_ns)  (lC (mV 0) (lC (mV 3) (lN)))))) (sRaise1 3 "number" (mV 2)) (sPass)))
def p_p_check_rules (B_ns : List Int) : List U → P0 := pfn 4 (m_p_check_rules B_ns)
def d_p_check_rules (B_ns : List Int) : List U → Mh → R U := runP (p_p_check_rules B_ns)
abbrev st_p_keeps : Stmt := topS 27
abbrev N_p_keeps : List Str := ["steps", "rule", "pattern"]
def m_p_keeps (B_ns : List Int) : Ms := sSeq (sE (mCall (d_p_check_rules B_ns)  (lC (mV 0) (lC (mLd (lC (mV 1) (lN))) (lN)))))
    (sSeq (sE (mCall (d_p_check_pattern B_ns)  (lC (mV 0) (lC (mV 2) (lN)))))
    (sRet (mCall (d_p_kept_in B_ns)  (lC (mV 0) (lC (mV 1) (lC (mV 2) (lN)))))))
def p_p_keeps (B_ns : List Int) : List U → P0 := pfn 3 (m_p_keeps B_ns)
def d_p_keeps (B_ns : List Int) : List U → Mh → R U := runP (p_p_keeps B_ns)
abbrev st_law_raised : Stmt := topS 44
abbrev N_law_raised : List Str := ["steps", "rule", "pattern", "e"]
def m_law_raised (B_ns : List Int) : Ms := sSeq (sTryM (sE (mCall (d_p_keeps B_ns)  (lC (mV 0) (lC (mV 1) (lC (mV 2) (lN)))))) [⟨tk0 4 fun c => c == 3 || 3 == 0, some 3, fun c f => sRet (mTd (lC (mC (.str "rule")) (lC (mXf f "number" (mV 3)) (lN))))⟩,
    ⟨tk0 4 fun c => c == 2 || 2 == 0, none, fun _ _ => sRet (mC (.str "pattern"))⟩])
    (sRet (mC .non))
def p_law_raised (B_ns : List Int) : List U → P0 := pfn 4 (m_law_raised B_ns)
def d_law_raised (B_ns : List Int) : List U → Mh → R U := runP (p_law_raised B_ns)
abbrev st_law_holds : Stmt := topS 36
abbrev N_law_holds : List Str := ["steps", "pattern", "fact", "row", "word", "s", "t"]
def m_law_holds (B_ns : List Int) : Ms := sSeq (sAsg (mV 2) (gtD 3 (gtCons (gtN 4) (gtCons (gtN 5) (gtCons (gtN 6) (gtNil))))))
    (sSeq (sAsg (mIf (bV (m2 fIn (mV 4) (mTd (lC (mC (.str "same")) (lC (mC (.str "unlike")) (lN)))))) (m2 (fIxD B_ns) (mV 1) (mC (.int 0))) (m2 (fIxD B_ns) (mV 1) (mC (.int 1)))) (gtN 3))
    (sRet (m2 fEq (m2 fEq (m2 (fIxD B_ns) (mV 3) (mMtK fIndex fIndexT (mV 0) (lC (mV 5) (lN)))) (m2 (fIxD B_ns) (mV 3) (mMtK fIndex fIndexT (mV 0) (lC (mV 6) (lN))))) (m2 fIn (mV 4) (mTd (lC (mC (.str "same")) (lC (mC (.str "near")) (lN))))))))
def p_law_holds (B_ns : List Int) : List U → P0 := pfn 7 (m_law_holds B_ns)
def d_law_holds (B_ns : List Int) : List U → Mh → R U := runP (p_law_holds B_ns)
abbrev st_law_keeps : Stmt := topS 37
abbrev N_law_keeps : List Str := ["steps", "rule", "pattern", "row", "some", "many", "step", "number"]
def m_law_keeps (B_ns : List Int) (rec : List U → Mh → R U) : Ms := sSeq (sIf (bV (m2 fEq (m2 (fIxD B_ns) (mV 1) (mC (.int 0))) (mC (.str "if")))) (sRet (mOrV (mNotV (mCall (d_law_holds B_ns)  (lC (mV 0) (lC (mV 2) (lC (m2 (fIxD B_ns) (mV 1) (mC (.int 1))) (lN)))))) (mCall rec  (lC (mV 0) (lC (m2 (fIxD B_ns) (mV 1) (mC (.int 2))) (lC (mV 2) (lN))))))) (sPass))
    (sSeq (sIf (bV (m2 fIn (m2 (fIxD B_ns) (mV 1) (mC (.int 0))) (mTd (lC (mC (.str "same")) (lC (mC (.str "unlike")) (lC (mC (.str "near")) (lC (mC (.str "far")) (lN)))))))) (sRet (mCall (d_law_holds B_ns)  (lC (mV 0) (lC (mV 2) (lC (mV 1) (lN)))))) (sPass))
    (sSeq (sAsg (mIf (bV (m2 fIn (m2 (fIxD B_ns) (mV 1) (mC (.int 0))) (mTd (lC (mC (.str "most groups")) (lC (mC (.str "least groups")) (lN)))))) (m2 (fIxD B_ns) (mV 2) (mC (.int 1))) (m2 (fIxD B_ns) (mV 2) (mC (.int 0)))) (gtN 3))
    (sSeq (sAsg (mLcF (wSeq (m2 (fIxD B_ns) (mV 1) (mC (.int 1)))) (gtN 6) (bYes) (m2 (fIxD B_ns) (mV 3) (mMtK fIndex fIndexT (mV 0) (lC (mV 6) (lN)))) [6]) (gtN 4))
    (sSeq (sIf (bV (m2 fEq (m2 (fIxD B_ns) (mV 1) (mC (.int 0))) (mC (.str "each")))) (sRet (m2 fEq (mLcF (wSeq (mV 4)) (gtN 7) (bV (m2 fGt (mMtLD fCount (mV 4) (lC (mV 7) (lN))) (m2 (fIxD B_ns) (mV 1) (mC (.int 2))))) (mV 7) [7]) (mLd (lN)))) (sPass))
    (sSeq (sAsg (m1 fLenSetE (mV 4)) (gtN 5))
    (sRet (mIf (bV (m2 fIn (m2 (fIxD B_ns) (mV 1) (mC (.int 0))) (mTd (lC (mC (.str "most")) (lC (mC (.str "most groups")) (lN)))))) (m2 fLe (mV 5) (m2 (fIxD B_ns) (mV 1) (mC (.int 2)))) (m2 fGe (mV 5) (m2 (fIxD B_ns) (mV 1) (mC (.int 2)))))))))))
def r_law_keeps (B_ns : List Int) : Nat → List U → P0
  | 0 => fun _ => .stuck
  | n + 1 => pfn 8 (m_law_keeps B_ns (runP (r_law_keeps B_ns n)))
def p_law_keeps (B_ns : List Int) : List U → P0 := r_law_keeps B_ns 2
def d_law_keeps (B_ns : List Int) : List U → Mh → R U := runP (p_law_keeps B_ns)
abbrev st_law_take : Stmt := topS 30
abbrev N_law_take : List Str := ["feed", "bound", "digit"]
def m_law_take (B_ns : List Int) : Ms := sSeq (sIf (bV (m2 fGt (m2 (fIxD B_ns) (mV 0) (mC (.int 0))) (mC (.int 0)))) (sSeq (sAsg (m2 fMod (mBt (fInt) (lC (m2 (fIxD B_ns) (mV 0) (mC (.int 0))) (lN))) (mV 1)) (gtN 2))
    (sSeq (sPut (mV 0) (mC (.int 0)) (m2 fDiv (m2 (fIxD B_ns) (mV 0) (mC (.int 0))) (mV 1)))
    (sRet (mV 2)))) (sPass))
    (sSeq (sPut (mV 0) (mC (.int 1)) (m2 fMod (mBt (fInt) (lC (m2 fAddD (m2 fMulF (m2 (fIxD B_ns) (mV 0) (mC (.int 1))) (mC (.int 6364136223846793005))) (mC (.int 1442695040888963407))) (lN))) (mC (.int 2305843009213693951))))
    (sRet (m2 fMod (mBt (fInt) (lC (m2 fDiv (m2 (fIxD B_ns) (mV 0) (mC (.int 1))) (mC (.int 65536))) (lN))) (mV 1))))
def p_law_take (B_ns : List Int) : O → List U → PM := pmf 3 (m_law_take B_ns)
def d_law_take (B_ns : List Int) : List U → Mh → R U := runM (p_law_take B_ns)
abbrev st_law_pick : Stmt := topS 31
abbrev N_law_pick : List Str := ["feed", "some"]
def m_law_pick (B_ns : List Int) : Ms := sRet (m2 (fIxD B_ns) (mV 1) (mCall (d_law_take B_ns)  (lC (mV 0) (lC (mBt (fLenD B_ns) (lC (mV 1) (lN))) (lN)))))
def p_law_pick (B_ns : List Int) : O → List U → PM := pmf 2 (m_law_pick B_ns)
def d_law_pick (B_ns : List Int) : List U → Mh → R U := runM (p_law_pick B_ns)
abbrev st_law_values : Stmt := topS 43
abbrev N_law_values : List Str := ["feed", "steps", "rule", "odd", "inner", "found", "some", "step", "turn"]
def m_law_values (B_ns : List Int) : Ms := sSeq (sPar 6 7 (lC (mBt (fTupD) (lC (mV 1) (lN))) (lC (m2 (fIxD B_ns) (mV 1) (mC (.int 0))) (lN))))
    (sSeq (sAsg (mLd (lC (mC .non) (lC (mTd (lN)) (lC (mSlD (mV 2) (oN) (oS (mC (.int 2)))) (lC (m2 fAddD (mV 2) (mTd (lC (mC (.int 0)) (lN)))) (lC (mBt (fLstD) (lC (mV 2) (lN))) (lC (m1 fRev (mV 2)) (lC (mTd (lC (mC (.str "if")) (lC (mV 2) (lC (mV 2) (lN))))) (lN))))))))) (gtN 3))
    (sSeq (sAsg (m2 fAddD (mV 3) (mLd (lC (mTd (lC (mC (.str "if")) (lC (mC .non) (lC (mV 2) (lN))))) (lC (mTd (lC (mV 2) (lN))) (lC (mC (.int 0)) (lC (mC (.str "most")) (lN))))))) (gtN 3))
    (sSeq (sAsg (m2 fAddD (mV 3) (mLd (lC (mTd (lC (mC (.str "most")) (lC (mV 6) (lC (mC (.int 7)) (lN))))) (lC (mTd (lC (mC (.str "most")) (lC (mV 6) (lC (m1 fNeg (mC (.int 1))) (lN))))) (lC (mTd (lC (mC (.str "most")) (lC (mV 6) (lC (mC (.bl true)) (lN))))) (lC (mTd (lC (mC (.str "least")) (lC (mV 6) (lC (mC (.str "1")) (lN))))) (lN))))))) (gtN 3))
    (sSeq (sAsg (m2 fAddD (mV 3) (mLd (lC (mTd (lC (mC (.str "each")) (lC (mBt (fLstD) (lC (mV 6) (lN))) (lC (mC (.int 1)) (lN))))) (lN)))) (gtN 3))
    (sSeq (sAsg (m2 fAddD (mV 3) (mLd (lC (mTd (lC (mC (.str "most")) (lC (mTd (lN)) (lC (mC (.int 1)) (lN))))) (lC (mTd (lC (mC (.str "most")) (lC (m2 fAddD (mV 6) (mTd (lC (mV 7) (lN)))) (lC (mC (.int 1)) (lN))))) (lC (mTd (lC (mC (.str "most")) (lC (m1 fRev (mV 6)) (lC (mC (.int 1)) (lN))))) (lN)))))) (gtN 3))
    (sSeq (sAsg (m2 fAddD (mV 3) (mLd (lC (mTd (lC (mC (.str "most")) (lC (mV 7) (lC (mC (.int 1)) (lN))))) (lC (mTd (lC (mC (.str "each")) (lC (mTd (lC (mC .non) (lN))) (lC (mC (.int 1)) (lN))))) (lN))))) (gtN 3))
    (sSeq (sAsg (m2 fAddD (mV 3) (mLd (lC (mTd (lC (mC (.str "Most")) (lC (mV 6) (lC (mC (.int 1)) (lN))))) (lC (mTd (lC (mC (.str "most groups")) (lC (mTd (lC (mC (.str "q")) (lN))) (lC (mC (.int 1)) (lN))))) (lC (mTd (lC (mC (.str "least groups")) (lC (mV 6) (lC (mC (.int 6)) (lN))))) (lN)))))) (gtN 3))
    (sSeq (sAsg (m2 fAddD (mV 3) (mLd (lC (mTd (lC (mC (.str "least")) (lC (mV 6) (lC (mC (.int 0)) (lN))))) (lC (mTd (lC (mLd (lN)) (lC (mV 6) (lC (mC (.int 1)) (lN))))) (lN))))) (gtN 3))
    (sSeq (sAsg (m2 fAddD (mV 3) (mLd (lC (mTd (lC (mC (.str "if")) (lC (mTd (lC (mC (.str "same")) (lC (mV 7) (lC (m2 (fIxD B_ns) (mV 1) (m1 fNeg (mC (.int 1)))) (lN))))) (lC (mTd (lC (mC (.str "most")) (lC (mV 6) (lC (mC (.int 1)) (lN))))) (lN))))) (lN)))) (gtN 3))
    (sSeq (sAsg (m2 fAddD (mV 3) (mLd (lC (mTd (lC (mC (.str "if")) (lC (mTd (lC (mC (.str "same")) (lC (m2 (fIxD B_ns) (mV 1) (m1 fNeg (mC (.int 1)))) (lC (mV 7) (lN))))) (lC (mTd (lC (mC (.str "most")) (lC (mV 6) (lC (mC (.int 1)) (lN))))) (lN))))) (lN)))) (gtN 3))
    (sSeq (sAsg (m2 fAddD (mV 3) (mLd (lC (mTd (lC (mC (.str "if")) (lC (mTd (lC (mC (.str "near")) (lC (mV 7) (lC (m2 (fIxD B_ns) (mV 1) (m1 fNeg (mC (.int 1)))) (lN))))) (lC (mTd (lC (mC (.str "if")) (lC (mTd (lC (mC (.str "near")) (lC (mV 7) (lC (m2 (fIxD B_ns) (mV 1) (m1 fNeg (mC (.int 1)))) (lN))))) (lC (mTd (lC (mC (.str "most")) (lC (mV 6) (lC (mC (.int 1)) (lN))))) (lN))))) (lN))))) (lN)))) (gtN 3))
    (sSeq (sAsg (m2 fAddD (mV 3) (mLd (lC (mTd (lC (mC (.str "most")) (lC (mTd (lC (mLd (lC (mV 7) (lN))) (lN))) (lC (mC (.int 1)) (lN))))) (lN)))) (gtN 3))
    (sSeq (sAsg (mTd (lC (mC (.str "if")) (lC (mTd (lC (mC (.str "same")) (lC (mV 7) (lC (m2 (fIxD B_ns) (mV 1) (m1 fNeg (mC (.int 1)))) (lN))))) (lC (mCall (d_law_pick B_ns)  (lC (mV 0) (lC (mV 3) (lN)))) (lN))))) (gtN 4))
    (sSeq (sAsg (m2 fAddD (mV 3) (mLd (lC (mV 4) (lC (mTd (lC (mC (.str "if")) (lC (mTd (lC (mC (.str "same")) (lC (mV 7) (lC (m2 (fIxD B_ns) (mV 1) (m1 fNeg (mC (.int 1)))) (lN))))) (lC (mC .non) (lN))))) (lN))))) (gtN 3))
    (sSeq (sAsg (m2 fAddD (mV 3) (mLd (lC (mTd (lC (mC (.str "if")) (lC (mTd (lC (mC (.str "same")) (lC (mV 7) (lC (m2 (fIxD B_ns) (mV 1) (m1 fNeg (mC (.int 1)))) (lN))))) (lC (mTd (lC (mC (.str "most")) (lC (mV 6) (lC (mC (.int 7)) (lN))))) (lN))))) (lN)))) (gtN 3))
    (sSeq (sAsg (m2 fAddD (mLd (lC (mV 4) (lN))) (mLcF (wR1 (lC (mC (.int 8)) (lN))) (gtN 8) (bYes) (mCall (d_law_pick B_ns)  (lC (mV 0) (lC (mV 3) (lN)))) [8])) (gtN 5))
    (sRet (m2 fAddD (mV 5) (mLd (lC (mV 2) (lC (mTd (lC (mC (.str "most  groups")) (lC (mV 6) (lC (mC (.int 1)) (lN))))) (lC (mTd (lC (mC (.str "groups most")) (lC (mV 6) (lC (mC (.int 1)) (lN))))) (lN)))))))))))))))))))))))
def p_law_values (B_ns : List Int) : O → List U → PM := pmf 9 (m_law_values B_ns)
def d_law_values (B_ns : List Int) : List U → Mh → R U := runM (p_law_values B_ns)
abbrev st_law_within : Stmt := topS 32
abbrev N_law_within : List Str := ["value", "low", "high"]
def m_law_within (B_ns : List Int) : Ms := sRet (mAndV (m1 (fIsi "int") (mV 0)) (mAndV (mNotV (m1 (fIsi "bool") (mV 0))) (mChain fLe fLe (mV 1) (mV 0) (mV 2))))
def p_law_within (B_ns : List Int) : List U → P0 := pfn 3 (m_law_within B_ns)
def d_law_within (B_ns : List Int) : List U → Mh → R U := runP (p_law_within B_ns)
abbrev st_law_facts : Stmt := topS 35
abbrev N_law_facts : List Str := ["steps", "found", "at", "other", "word"]
def m_law_facts (B_ns : List Int) : Ms := sSeq (sAsg (mLd (lN)) (gtN 1))
    (sSeq (sForF (wR1 (lC (mBt (fLenD B_ns) (lC (mV 0) (lN))) (lN))) (gtN 2) (sForF (wSeq (mSlD (mV 0) (oS (m2 fAddD (mV 2) (mC (.int 1)))) (oN))) (gtN 3) (sAsg (m2 fAddD (mV 1) (mLcF (wSeq (mTd (lC (mC (.str "same")) (lC (mC (.str "unlike")) (lC (mC (.str "near")) (lC (mC (.str "far")) (lN))))))) (gtN 4) (bYes) (mTd (lC (mV 4) (lC (m2 (fIxD B_ns) (mV 0) (mV 2)) (lC (mV 3) (lN))))) [4])) (gtN 1))))
    (sRet (mBt (fSorted) (lC (mV 1) (lN)))))
def p_law_facts (B_ns : List Int) : List U → P0 := pfn 5 (m_law_facts B_ns)
def d_law_facts (B_ns : List Int) : List U → Mh → R U := runP (p_law_facts B_ns)
abbrev st_law_is : Stmt := topS 42
abbrev N_law_is : List Str := ["steps", "value", "deep", "fact", "one", "step"]
def m_law_is (B_ns : List Int) (rec : List U → Mh → R U) : Ms := sSeq (sIf (bOr (bNot (bT (m1 (fIsi "tuple") (mV 1)))) (bOr (bV (m2 fNe (mBt (fLenD B_ns) (lC (mV 1) (lN))) (mC (.int 3)))) (bNot (bT (m1 (fIsi "str") (m2 (fIxD B_ns) (mV 1) (mC (.int 0)))))))) (sRet (mC (.bl false))) (sPass))
    (sSeq (sIf (bV (m2 fIn (m2 (fIxD B_ns) (mV 1) (mC (.int 0))) (mTd (lC (mC (.str "same")) (lC (mC (.str "unlike")) (lC (mC (.str "near")) (lC (mC (.str "far")) (lN)))))))) (sRet (mAndV (m1 (fIsi "str") (m2 (fIxD B_ns) (mV 1) (mC (.int 1)))) (mAndV (m1 (fIsi "str") (m2 (fIxD B_ns) (mV 1) (mC (.int 2)))) (m2 fIn (mV 1) (mCall (d_law_facts B_ns)  (lC (mV 0) (lN))))))) (sPass))
    (sSeq (sIf (bV (m2 fEq (m2 (fIxD B_ns) (mV 1) (mC (.int 0))) (mC (.str "if")))) (sSeq (sAsg (m2 (fIxD B_ns) (mV 1) (mC (.int 1))) (gtN 3))
    (sSeq (sIf (bOr (bNot (bT (m1 (fIsi "tuple") (mV 3)))) (bV (m2 fNe (mLcF (wSeq (mV 3)) (gtN 4) (bNot (bT (m1 (fIsi "str") (mV 4)))) (mV 4) [4]) (mLd (lN))))) (sRet (mC (.bl false))) (sPass))
    (sRet (mAndV (mV 2) (mAndV (m2 fIn (mV 3) (mCall (d_law_facts B_ns)  (lC (mV 0) (lN)))) (mCall rec  (lC (mV 0) (lC (m2 (fIxD B_ns) (mV 1) (mC (.int 2))) (lC (mC (.bl false)) (lN)))))))))) (sPass))
    (sSeq (sIf (bOr (bV (m2 fNotIn (m2 (fIxD B_ns) (mV 1) (mC (.int 0))) (mTd (lC (mC (.str "most")) (lC (mC (.str "least")) (lC (mC (.str "each")) (lC (mC (.str "most groups")) (lC (mC (.str "least groups")) (lN))))))))) (bNot (bT (m1 (fIsi "tuple") (m2 (fIxD B_ns) (mV 1) (mC (.int 1))))))) (sRet (mC (.bl false))) (sPass))
    (sSeq (sIf (bOr (bV (m2 fNe (mLcF (wSeq (m2 (fIxD B_ns) (mV 1) (mC (.int 1)))) (gtN 4) (bNot (bT (m1 (fIsi "str") (mV 4)))) (mV 4) [4]) (mLd (lN)))) (bV (m2 fEq (m2 (fIxD B_ns) (mV 1) (mC (.int 1))) (mTd (lN))))) (sRet (mC (.bl false))) (sPass))
    (sRet (mAndV (m2 fEq (m2 (fIxD B_ns) (mV 1) (mC (.int 1))) (mBt (fTupD) (lC (mLcF (wSeq (mV 0)) (gtN 5) (bV (m2 fIn (mV 5) (m2 (fIxD B_ns) (mV 1) (mC (.int 1))))) (mV 5) [5]) (lN)))) (mCall (d_law_within B_ns)  (lC (m2 (fIxD B_ns) (mV 1) (mC (.int 2))) (lC (mC (.int 0)) (lC (mC (.int 6)) (lN)))))))))))
def r_law_is (B_ns : List Int) : Nat → List U → P0
  | 0 => fun _ => .stuck
  | n + 1 => pfn 6 (m_law_is B_ns (runP (r_law_is B_ns n)))
def p_law_is (B_ns : List Int) : List U → P0 := r_law_is B_ns 2
def d_law_is (B_ns : List Int) : List U → Mh → R U := runP (p_law_is B_ns)
abbrev st_law_some_steps : Stmt := topS 38
abbrev N_law_some_steps : List Str := ["feed", "steps", "some", "step"]
def m_law_some_steps (B_ns : List Int) : Ms := sSeq (sAsg (mBt (fTupD) (lC (mLcF (wSeq (mV 1)) (gtN 3) (bV (m2 fGt (mCall (d_law_take B_ns)  (lC (mV 0) (lC (mC (.int 3)) (lN)))) (mC (.int 0)))) (mV 3) [3]) (lN))) (gtN 2))
    (sRet (mIf (bV (m2 fNe (mV 2) (mTd (lN)))) (mV 2) (mTd (lC (mCall (d_law_pick B_ns)  (lC (mV 0) (lC (mV 1) (lN)))) (lN)))))
def p_law_some_steps (B_ns : List Int) : O → List U → PM := pmf 4 (m_law_some_steps B_ns)
def d_law_some_steps (B_ns : List Int) : List U → Mh → R U := runM (p_law_some_steps B_ns)
abbrev st_law_drawn_rule : Stmt := topS 39
abbrev N_law_drawn_rule : List Str := ["feed", "steps", "word", "rule", "case", "some"]
def m_law_drawn_rule (B_ns : List Int) : Ms := sSeq (sPar 4 5 (lC (mCall (d_law_take B_ns)  (lC (mV 0) (lC (mC (.int 10)) (lN)))) (lC (mCall (d_law_facts B_ns)  (lC (mV 1) (lN))) (lN))))
    (sSeq (sIf (bAnd (bV (m2 fLt (mV 4) (mC (.int 4)))) (bV (m2 fNe (mV 5) (mLd (lN))))) (sRet (mCall (d_law_pick B_ns)  (lC (mV 0) (lC (mV 5) (lN))))) (sPass))
    (sSeq (sAsg (mCall (d_law_pick B_ns)  (lC (mV 0) (lC (mLd (lC (mC (.str "most")) (lC (mC (.str "least")) (lC (mC (.str "each")) (lC (mC (.str "most groups")) (lC (mC (.str "least groups")) (lN))))))) (lN)))) (gtN 2))
    (sSeq (sAsg (mTd (lC (mV 2) (lC (mCall (d_law_some_steps B_ns)  (lC (mV 0) (lC (mV 1) (lN)))) (lC (mCall (d_law_pick B_ns)  (lC (mV 0) (lC (mLd (lC (mC (.int 1)) (lC (mC (.int 2)) (lC (mC (.int 2)) (lC (mC (.int 1)) (lC (mC (.int 3)) (lC (mC (.int 0)) (lN)))))))) (lN)))) (lN))))) (gtN 3))
    (sSeq (sIf (bAnd (bV (m2 fGt (mV 4) (mC (.int 7)))) (bV (m2 fNe (mV 5) (mLd (lN))))) (sRet (mTd (lC (mC (.str "if")) (lC (mCall (d_law_pick B_ns)  (lC (mV 0) (lC (mV 5) (lN)))) (lC (mIf (bV (m2 fEq (mCall (d_law_take B_ns)  (lC (mV 0) (lC (mC (.int 2)) (lN)))) (mC (.int 0)))) (mV 3) (mCall (d_law_pick B_ns)  (lC (mV 0) (lC (mV 5) (lN))))) (lN)))))) (sPass))
    (sRet (mV 3))))))
def p_law_drawn_rule (B_ns : List Int) : O → List U → PM := pmf 6 (m_law_drawn_rule B_ns)
def d_law_drawn_rule (B_ns : List Int) : List U → Mh → R U := runM (p_law_drawn_rule B_ns)
abbrev st_law_rows : Stmt := topS 33
abbrev N_law_rows : List Str := ["many", "found", "turn", "longer", "row", "number"]
def m_law_rows (B_ns : List Int) : Ms := sSeq (sAsg (mLd (lC (mTd (lN)) (lN))) (gtN 1))
    (sSeq (sForF (wR1 (lC (mV 0) (lN))) (gtN 2) (sSeq (sAsg (mL (lN)) (gtN 3))
    (sSeq (sForF (wSeq (mV 1)) (gtN 4) (sForF (wR1 (lC (m2 fAddD (m1 fLenSetE (mV 4)) (mC (.int 1))) (lN))) (gtN 5) (sE (mMtL fAppend (mV 3) (lC (m2 fAddD (mV 4) (mTd (lC (mV 5) (lN)))) (lN))))))
    (sSeq (sFrz 3) (sAsg (mV 3) (gtN 1))))))
    (sRet (mV 1)))
def p_law_rows (B_ns : List Int) : List U → P0 := pfn 6 (m_law_rows B_ns)
def d_law_rows (B_ns : List Int) : List U → Mh → R U := runP (p_law_rows B_ns)
abbrev st_law_patterns : Stmt := topS 34
abbrev N_law_patterns : List Str := ["many", "found", "firsts", "groups", "at"]
def m_law_patterns (B_ns : List Int) : Ms := sSeq (sAsg (mL (lN)) (gtN 1))
    (sSeq (sForF (wSeq (mCall (d_law_rows B_ns)  (lC (mV 0) (lN)))) (gtN 2) (sForF (wSeq (mCall (d_law_rows B_ns)  (lC (mV 0) (lN)))) (gtN 3) (sIf (bV (m2 fEq (m1 fLenSetE (mLcF (wR1 (lC (mV 0) (lN))) (gtN 4) (bYes) (mTd (lC (m2 (fIxD B_ns) (mV 2) (mV 4)) (lC (m2 (fIxD B_ns) (mV 3) (mV 4)) (lN)))) [4])) (m1 fLenSetE (mV 2)))) (sE (mMtL fAppend (mV 1) (lC (mTd (lC (mV 2) (lC (mV 3) (lN)))) (lN)))) (sPass))))
    (sSeq (sFrz 1) (sRet (mV 1))))
def p_law_patterns (B_ns : List Int) : List U → P0 := pfn 5 (m_law_patterns B_ns)
def d_law_patterns (B_ns : List Int) : List U → Mh → R U := runP (p_law_patterns B_ns)
abbrev st_law_step_lists : Stmt := topS 40
abbrev N_law_step_lists : List Str := ["found"]
def m_law_step_lists (B_ns : List Int) : Ms := sSeq (sAsg (mLd (lC (mLd (lC (mC (.str "a")) (lC (mC (.str "b")) (lN)))) (lC (mLd (lC (mC (.str "c")) (lC (mC (.str "a")) (lC (mC (.str "b")) (lN))))) (lC (mLd (lC (mC (.str "ask")) (lC (mC (.str "bid")) (lC (mC (.str "cut")) (lC (mC (.str "dig")) (lN)))))) (lC (mLd (lC (mC (.str "d")) (lC (mC (.str "c")) (lC (mC (.str "b")) (lC (mC (.str "a")) (lN)))))) (lN)))))) (gtN 0))
    (sRet (m2 fAddD (mV 0) (mLd (lC (mLd (lC (mC (.str "ab")) (lC (mC (.str "a")) (lC (mC (.str "abc")) (lN))))) (lC (mLd (lC (mC (.str "one")) (lN))) (lN))))))
def p_law_step_lists (B_ns : List Int) : List U → P0 := pfn 1 (m_law_step_lists B_ns)
def d_law_step_lists (B_ns : List Int) : List U → Mh → R U := runP (p_law_step_lists B_ns)
abbrev st_law_feed : Stmt := topS 29
abbrev N_law_feed : List Str := ["script", "k", "cell", "digits", "state"]
def m_law_feed (B_ns : List Int) : Ms := sSeq (sAsg (mIf (bV (m2 fLt (mV 1) (mBt (fLenD B_ns) (lC (mV 0) (lN))))) (m2 (fIxD B_ns) (mV 0) (mV 1)) (m2 fAddD (m2 fMulF (mC (.int 61)) (mV 1)) (mC (.int 17)))) (gtN 2))
    (sSeq (sAsg (mBt (fMax2) (lC (mC (.int 0)) (lC (m2 fSub (mBt (fAbs) (lC (mV 2) (lN))) (m2 fPow (mC (.int 10)) (mC (.int 18)))) (lN)))) (gtN 3))
    (sSeq (sAsg (m2 fMod (mBt (fInt) (lC (m2 fAddD (m2 fAddD (m2 fMulF (mV 2) (mC (.int 6364136223846793005))) (m2 fMulF (mC (.int 7919)) (mV 1))) (mC (.int 1442695040888963407))) (lN))) (mC (.int 2305843009213693951))) (gtN 4))
    (sRet (mL (lC (mV 3) (lC (mV 4) (lN)))))))
def d_law_feed (B_ns : List Int) : List U → Mh → R U := runB 5 (m_law_feed B_ns)
abbrev st_p_law : Stmt := topS 45
abbrev N_p_law : List Str := ["script", "k", "feed", "steps", "every", "turn", "rule", "value", "nth", "odd", "bad", "pattern", "shown", "found", "due"]
def m_p_law (B_ns : List Int) : Ms := sSeq (sForF (wR1 (lC (mBt (fMax2) (lC (mC (.int 1)) (lC (mBt (fMin2) (lC (mC (.int 3)) (lC (mBt (fLenD B_ns) (lC (mV 0) (lN))) (lN)))) (lN)))) (lN))) (gtN 1) (sSeq (sAsg (mCall (d_law_feed B_ns)  (lC (mV 0) (lC (mV 1) (lN)))) (gtN 2))
    (sSeq (sAsg (mCall (d_law_pick B_ns)  (lC (mV 2) (lC (mCall0 (d_law_step_lists B_ns) ) (lN)))) (gtN 3))
    (sSeq (sAsg (mCall (d_law_patterns B_ns)  (lC (mBt (fLenD B_ns) (lC (mV 3) (lN))) (lN))) (gtN 4))
    (sForF (wR1 (lC (mC (.int 5)) (lN))) (gtN 5) (sSeq (sAsg (mCall (d_law_drawn_rule B_ns)  (lC (mV 2) (lC (mV 3) (lN)))) (gtN 6))
    (sSeq (sForF (wSeq (mCall (d_law_values B_ns)  (lC (mV 2) (lC (mV 3) (lC (mV 6) (lN)))))) (gtN 7) (sSeq (sPar3 12 13 14 (lC (mBt (fRepr) (lC (mV 7) (lN))) (lC (mCall (d_p_is_rule B_ns)  (lC (mV 3) (lC (mV 7) (lN)))) (lC (mCall (d_law_is B_ns)  (lC (mV 3) (lC (mV 7) (lC (mC (.bl true)) (lN))))) (lN)))))
    (sSeq (sIf (bOr (bNot (bT (m1 (fIsi "bool") (mV 13)))) (bOr (bV (m2 fNe (mV 13) (mV 14))) (bV (m2 fNe (mBt (fRepr) (lC (mV 7) (lN))) (mV 12))))) (sRet (mC (.bl false))) (sPass))
    (sIf (bAnd (bNot (bT (mV 14))) (bV (m2 fNe (mCall (d_law_raised B_ns)  (lC (mV 3) (lC (mV 7) (lC (mC .non) (lN))))) (mTd (lC (mC (.str "rule")) (lC (mC (.int 0)) (lN))))))) (sRet (mC (.bl false))) (sPass)))))
    (sSeq (sForF (wR1 (lC (mC (.int 6)) (lN))) (gtN 8) (sSeq (sAsg (mCall (d_law_pick B_ns)  (lC (mV 2) (lC (mV 4) (lN)))) (gtN 11))
    (sIf (bV (m2 fNe (mBt (fRepr) (lC (mCall (d_p_keeps B_ns)  (lC (mBt (fLstD) (lC (mV 3) (lN))) (lC (mV 6) (lC (mV 11) (lN))))) (lN))) (mBt (fRepr) (lC (mCall (d_law_keeps B_ns)  (lC (mV 3) (lC (mV 6) (lC (mV 11) (lN))))) (lN))))) (sRet (mC (.bl false))) (sPass))))
    (sSeq (sAsg (mLd (lC (mC .non) (lC (mTd (lN)) (lC (mTd (lC (m2 (fIxD B_ns) (m2 (fIxD B_ns) (mV 4) (mC (.int 0))) (mC (.int 0))) (lN))) (lC (mBt (fLstD) (lC (m2 (fIxD B_ns) (mV 4) (mC (.int 0))) (lN))) (lN)))))) (gtN 9))
    (sSeq (sAsg (m2 fAddD (mV 9) (mLd (lC (mTd (lC (m2 fAddD (m2 (fIxD B_ns) (m2 (fIxD B_ns) (mV 4) (mC (.int 0))) (mC (.int 0))) (mTd (lC (mC (.int 0)) (lN)))) (lC (m2 fAddD (m2 (fIxD B_ns) (m2 (fIxD B_ns) (mV 4) (mC (.int 0))) (mC (.int 1))) (mTd (lC (mC (.int 0)) (lN)))) (lN)))) (lN)))) (gtN 9))
    (sForF (wSeq (m2 fAddD (mV 9) (mCall (d_law_no_patterns B_ns)  (lC (mBt (fLenD B_ns) (lC (mV 3) (lN))) (lN))))) (gtN 10) (sIf (bV (m2 fNe (mCall (d_law_raised B_ns)  (lC (mV 3) (lC (mV 6) (lC (mV 10) (lN))))) (mC (.str "pattern")))) (sRet (mC (.bl false))) (sPass)))))))))))))
    (sRet (mC (.bl true)))
def d_p_law (B_ns : List Int) : List U → Mh → R U := runB 15 (m_p_law B_ns)
end Law

set_option Elab.async false
set_option linter.all false
set_option maxRecDepth 100000
set_option maxHeartbeats 4100000
namespace Law
open PySem PySem.Spec PyProof.Rows L2 Vm
/-- what the defs find in the module -/
structure Fx (P : Program) (w : World) (K : PySem.W.Frag) (mg : Str → Option Value) (base : Heap) (g : Gc) : Prop where
  hK : K = g.K
  hx : g.exn = none
  z_abs : mg "abs" = none
  z_all : mg "all" = none
  z_bool : mg "bool" = none
  z_enumerate : mg "enumerate" = none
  z_int : mg "int" = none
  z_isinstance : mg "isinstance" = none
  z_len : mg "len" = none
  z_list : mg "list" = none
  z_max : mg "max" = none
  z_min : mg "min" = none
  z_range : mg "range" = none
  z_repr : mg "repr" = none
  z_set : mg "set" = none
  z_sorted : mg "sorted" = none
  z_str : mg "str" = none
  z_tuple : mg "tuple" = none
  g_MOST_COUNTED : ∃ t, mg "MOST_COUNTED" = some (.int 6 t)
  d_OPPOSITES : ∃ a, mg "OPPOSITES" = some (.ref a) ∧ KD K w a [("far", "near"), ("near", "far"), ("same", "unlike"), ("unlike", "same")]
  t_COUNTS : ∃ a, mg "COUNTS" = some (.ref a) ∧ KT K a ["each", "least", "least groups", "most", "most groups"]
  t_COUNTS_OF_GROUPS : ∃ a, mg "COUNTS_OF_GROUPS" = some (.ref a) ∧ KT K a ["least groups", "most groups"]
  t_LINKS_OF_GROUPS : ∃ a, mg "LINKS_OF_GROUPS" = some (.ref a) ∧ KT K a ["near", "same"]
  m_NoList : mg "NoList" = some (.ref (g.cl 1))
  x_NoList : Xc0 K mg "NoList" (g.cl 1)
  m_BadPattern : mg "BadPattern" = some (.ref (g.cl 2))
  x_BadPattern : Xc0 K mg "BadPattern" (g.cl 2)
  m_BadRule : mg "BadRule" = some (.ref (g.cl 3))
  x_BadRule : Xcf P w K mg base "BadRule" "number" (g.cl 3)
  q_BadPattern : Exm K g.cl 4 2
  q_BadRule : Exm K g.cl 4 3
  xf_BadRule : XfC K (g.cl 3)
  nx_BadRule : PySem.W.findIn K (.ref (g.cl 3)) "number" = some none
theorem sc_law_no_patterns : FnScope N_law_no_patterns ["many"] (defScope (st_law_no_patterns)) := ⟨rfl, rfl, rfl, by decide +kernel, rfl, by decide +kernel, by decide +kernel⟩
theorem sc_p_holds : FnScope N_p_holds ["steps", "fact", "pattern"] (defScope (st_p_holds)) := ⟨rfl, rfl, rfl, by decide +kernel, rfl, by decide +kernel, by decide +kernel⟩
theorem sc_p_kept_in : FnScope N_p_kept_in ["steps", "rule", "pattern"] (defScope (st_p_kept_in)) := ⟨rfl, rfl, rfl, by decide +kernel, rfl, by decide +kernel, by decide +kernel⟩
theorem sc_p_numbered : FnScope N_p_numbered ["things"] (defScope (st_p_numbered)) := ⟨rfl, rfl, rfl, by decide +kernel, rfl, by decide +kernel, by decide +kernel⟩
theorem sc_p_is_integer : FnScope N_p_is_integer ["value"] (defScope (st_p_is_integer)) := ⟨rfl, rfl, rfl, by decide +kernel, rfl, by decide +kernel, by decide +kernel⟩
theorem sc_is_numbering : FnScope N_is_numbering ["many", "value"] (defScope (st_is_numbering)) := ⟨rfl, rfl, rfl, by decide +kernel, rfl, by decide +kernel, by decide +kernel⟩
theorem sc_p_is_pattern : FnScope N_p_is_pattern ["many", "value"] (defScope (st_p_is_pattern)) := ⟨rfl, rfl, rfl, by decide +kernel, rfl, by decide +kernel, by decide +kernel⟩
theorem sc_p_check_pattern : FnScope N_p_check_pattern ["steps", "pattern"] (defScope (st_p_check_pattern)) := ⟨rfl, rfl, rfl, by decide +kernel, rfl, by decide +kernel, by decide +kernel⟩
theorem sc_p_are_unlike_steps : FnScope N_p_are_unlike_steps ["steps", "value"] (defScope (st_p_are_unlike_steps)) := ⟨rfl, rfl, rfl, by decide +kernel, rfl, by decide +kernel, by decide +kernel⟩
theorem sc_is_count : FnScope N_is_count ["steps", "value"] (defScope (st_is_count)) := ⟨rfl, rfl, rfl, by decide +kernel, rfl, by decide +kernel, by decide +kernel⟩
theorem sc_p_is_fact : FnScope N_p_is_fact ["steps", "value"] (defScope (st_p_is_fact)) := ⟨rfl, rfl, rfl, by decide +kernel, rfl, by decide +kernel, by decide +kernel⟩
theorem sc_is_plain_rule : FnScope N_is_plain_rule ["steps", "value"] (defScope (st_is_plain_rule)) := ⟨rfl, rfl, rfl, by decide +kernel, rfl, by decide +kernel, by decide +kernel⟩
theorem sc_p_is_rule : FnScope N_p_is_rule ["steps", "value"] (defScope (st_p_is_rule)) := ⟨rfl, rfl, rfl, by decide +kernel, rfl, by decide +kernel, by decide +kernel⟩
theorem sc_p_check_rules : FnScope N_p_check_rules ["steps", "rules"] (defScope (st_p_check_rules)) := ⟨rfl, rfl, rfl, by decide +kernel, rfl, by decide +kernel, by decide +kernel⟩
theorem sc_p_keeps : FnScope N_p_keeps ["steps", "rule", "pattern"] (defScope (st_p_keeps)) := ⟨rfl, rfl, rfl, by decide +kernel, rfl, by decide +kernel, by decide +kernel⟩
theorem sc_law_raised : FnScope N_law_raised ["steps", "rule", "pattern"] (defScope (st_law_raised)) := ⟨rfl, rfl, rfl, by decide +kernel, rfl, by decide +kernel, by decide +kernel⟩
theorem sc_law_holds : FnScope N_law_holds ["steps", "pattern", "fact"] (defScope (st_law_holds)) := ⟨rfl, rfl, rfl, by decide +kernel, rfl, by decide +kernel, by decide +kernel⟩
theorem sc_law_keeps : FnScope N_law_keeps ["steps", "rule", "pattern"] (defScope (st_law_keeps)) := ⟨rfl, rfl, rfl, by decide +kernel, rfl, by decide +kernel, by decide +kernel⟩
theorem sc_law_take : FnScope N_law_take ["feed", "bound"] (defScope (st_law_take)) := ⟨rfl, rfl, rfl, by decide +kernel, rfl, by decide +kernel, by decide +kernel⟩
theorem sc_law_pick : FnScope N_law_pick ["feed", "some"] (defScope (st_law_pick)) := ⟨rfl, rfl, rfl, by decide +kernel, rfl, by decide +kernel, by decide +kernel⟩
theorem sc_law_values : FnScope N_law_values ["feed", "steps", "rule"] (defScope (st_law_values)) := ⟨rfl, rfl, rfl, by decide +kernel, rfl, by decide +kernel, by decide +kernel⟩
theorem sc_law_within : FnScope N_law_within ["value", "low", "high"] (defScope (st_law_within)) := ⟨rfl, rfl, rfl, by decide +kernel, rfl, by decide +kernel, by decide +kernel⟩
theorem sc_law_facts : FnScope N_law_facts ["steps"] (defScope (st_law_facts)) := ⟨rfl, rfl, rfl, by decide +kernel, rfl, by decide +kernel, by decide +kernel⟩
theorem sc_law_is : FnScope N_law_is ["steps", "value", "deep"] (defScope (st_law_is)) := ⟨rfl, rfl, rfl, by decide +kernel, rfl, by decide +kernel, by decide +kernel⟩
theorem sc_law_some_steps : FnScope N_law_some_steps ["feed", "steps"] (defScope (st_law_some_steps)) := ⟨rfl, rfl, rfl, by decide +kernel, rfl, by decide +kernel, by decide +kernel⟩
theorem sc_law_drawn_rule : FnScope N_law_drawn_rule ["feed", "steps"] (defScope (st_law_drawn_rule)) := ⟨rfl, rfl, rfl, by decide +kernel, rfl, by decide +kernel, by decide +kernel⟩
theorem sc_law_rows : FnScope N_law_rows ["many"] (defScope (st_law_rows)) := ⟨rfl, rfl, rfl, by decide +kernel, rfl, by decide +kernel, by decide +kernel⟩
theorem sc_law_patterns : FnScope N_law_patterns ["many"] (defScope (st_law_patterns)) := ⟨rfl, rfl, rfl, by decide +kernel, rfl, by decide +kernel, by decide +kernel⟩
theorem sc_law_step_lists : FnScope N_law_step_lists [] (defScope (st_law_step_lists)) := ⟨rfl, rfl, rfl, by decide +kernel, rfl, by decide +kernel, by decide +kernel⟩
theorem sc_law_feed : FnScope N_law_feed ["script", "k"] (defScope (st_law_feed)) := ⟨rfl, rfl, rfl, by decide +kernel, rfl, by decide +kernel, by decide +kernel⟩
theorem sc_p_law : FnScope N_p_law ["script"] (defScope (st_p_law)) := ⟨rfl, rfl, rfl, by decide +kernel, rfl, by decide +kernel, by decide +kernel⟩
theorem si_BadRule : FnScope ["self", "number"] ["self", "number"] (defScope (clsS (topS 4))) := ⟨rfl, rfl, rfl, by decide +kernel, rfl, by decide +kernel, by decide +kernel⟩
section
variable {P : Program} {w : World} {K : PySem.W.Frag} {mg : Str → Option Value} {base : Heap} {g : Gc}
theorem ok_law_no_patterns (B : Fx P w K mg base g) {f : Addr} {fd : FuncData} (F : Fun K "_law_no_patterns" "_law_no_patterns" st_law_no_patterns f fd) : FnOk P w K mg base (L2.CX P w) 1 f fd ["many"] (spM g 1 (d_law_no_patterns g.ns)) :=
  fn_okP B.hx (k := 0) F sc_law_no_patterns fun cdv A outer s H E hr hu hp tk =>
      s_cons (s_par (i := 1) (j := 2) rfl sc_law_no_patterns.nd (l_cons (e_op o_mulF (s_mulF B.hK) (e_tupD (l_cons (e_int) (l_nil))) (e_var (i := 0))) (l_cons (e_op o_add (s_addD B.hK) (e_op o_mulF (s_mulF B.hK) (e_tupD (l_cons (e_int) (l_nil))) (e_op op_sub s_sub (e_var (i := 0)) (e_int))) (e_tupD (l_cons (e_int) (l_nil)))) (l_nil))))
        (s_one (s_ret (e_lstD (l_cons (e_tupD (l_cons (e_op o_mulF (s_mulF B.hK) (e_tupD (l_cons (e_int) (l_nil))) (e_var (i := 0))) (l_cons (e_var (i := 1)) (l_nil)))) (l_cons (e_tupD (l_cons (e_var (i := 1)) (l_cons (e_var (i := 2)) (l_nil)))) (l_cons (e_tupD (l_cons (e_op o_mulF (s_mulF B.hK) (e_tupD (l_cons (e_bl) (l_nil))) (e_var (i := 0))) (l_cons (e_var (i := 1)) (l_nil)))) (l_cons (e_tupD (l_cons (e_var (i := 1)) (l_cons (e_op o_mulF (s_mulF B.hK) (e_tupD (l_cons (e_non) (l_nil))) (e_var (i := 0))) (l_nil)))) (l_cons (e_tupD (l_cons (e_var (i := 1)) (l_cons (e_op o_mulF (s_mulF B.hK) (e_tupD (l_cons (e_un un_neg s_neg (e_int)) (l_nil))) (e_var (i := 0))) (l_nil)))) (l_nil)))))))))
theorem ok_p_holds (B : Fx P w K mg base g) {f : Addr} {fd : FuncData} (F : Fun K "holds" "holds" st_p_holds f fd) : FnOk P w K mg base (L2.CX P w) 1 f fd ["steps", "fact", "pattern"] (spM g 3 (d_p_holds g.ns)) :=
  fn_okP B.hx (k := 0) F sc_p_holds fun cdv A outer s H E hr hu hp tk =>
      s_cons (s_asg (e_var (i := 1)) (g_tupD B.hK rfl (gs_cons (g_name (i := 5) sc_p_holds.nd) (gs_cons (g_name (i := 6) sc_p_holds.nd) (gs_cons (g_name (i := 7) sc_p_holds.nd) (gs_nil))))))
        (s_cons (s_asg (e_var (i := 2)) (g_tupD B.hK rfl (gs_cons (g_name (i := 8) sc_p_holds.nd) (gs_cons (g_name (i := 9) sc_p_holds.nd) (gs_nil)))))
        (s_cons (s_set (i := 3) sc_p_holds.nd (e_if (t_cmp (o_in hu) (s_in B.hK) (e_var (i := 5)) (e_tupD (l_cons (e_str) (l_cons (e_str) (l_nil))))) (e_var (i := 9)) (e_var (i := 8))))
        (s_cons (s_set (i := 4) sc_p_holds.nd (e_cmp (op_eqD (lt64 hu)) (s_eq B.hK) (e_ix (o_ix B.hK) s_ixD (e_var (i := 3)) (e_indexD B.hK hu (e_var (i := 0)) (l_cons (e_var (i := 6)) (l_nil)))) (e_ix (o_ix B.hK) s_ixD (e_var (i := 3)) (e_indexD B.hK hu (e_var (i := 0)) (l_cons (e_var (i := 7)) (l_nil))))))
        (s_one (s_ret (e_if (t_cmp (o_in hu) (s_in B.hK) (e_var (i := 5)) (e_globT B.hK rfl B.t_LINKS_OF_GROUPS.choose_spec.1 B.t_LINKS_OF_GROUPS.choose_spec.2)) (e_var (i := 4)) (e_not (e_var (i := 4)))))))))
theorem okr_p_kept_in (B : Fx P w K mg base g) {f : Addr} {fd : FuncData} (F : Fun K "kept_in" "kept_in" st_p_kept_in f fd) {f_p_holds : Addr} {fd_p_holds : FuncData} (ok_p_holds : FnOk P w K mg base (L2.CX P w) 1 f_p_holds fd_p_holds ["steps", "fact", "pattern"] (spM g 3 (d_p_holds g.ns))) (b_p_holds : Binds K fd_p_holds ["steps", "fact", "pattern"] []) (g_p_holds : mg "holds" = some (.ref f_p_holds)) (k_p_holds : PySem.W.keepIn K (.ref f_p_holds) = true) (rec_b : Binds K fd ["steps", "rule", "pattern"] []) (rec_g : mg "kept_in" = some (.ref f)) (rec_k : PySem.W.keepIn K (.ref f) = true) (n : Nat) : FnOk P w K mg base (L2.CX P w) (1 + n) f fd ["steps", "rule", "pattern"] (spM g 3 (runP (r_p_kept_in g.ns n))) := by
  induction n with
  | zero => exact fn_no (ps := ["steps", "rule", "pattern"])
  | succ n rec_ok =>
    exact fn_okP B.hx (k := 1 + n) F sc_p_kept_in fun cdv A outer s H E hr hu hp tk =>
      s_cons (s_if (t_cmp (op_eqD (lt64 hu)) (s_eq B.hK) (e_ix (o_ix B.hK) s_ixD (e_var (i := 1)) (e_int)) (e_str)) (s_one (s_ret (e_or (e_not (e_call ok_p_holds (hr.mono (by omega)) rfl g_p_holds k_p_holds b_p_holds tk (l_cons (e_var (i := 0)) (l_cons (e_ix (o_ix B.hK) s_ixD (e_var (i := 1)) (e_int)) (l_cons (e_var (i := 2)) (l_nil)))) (lC_len (lC_len (lC_len (lN_len)))))) (e_one (e_call rec_ok (hr.mono (by omega)) rfl rec_g rec_k rec_b tk (l_cons (e_var (i := 0)) (l_cons (e_ix (o_ix B.hK) s_ixD (e_var (i := 1)) (e_int)) (l_cons (e_var (i := 2)) (l_nil)))) (lC_len (lC_len (lC_len (lN_len))))))))) (s_nil))
        (s_cons (s_if (t_inG B.d_OPPOSITES.choose_spec.2 rfl B.d_OPPOSITES.choose_spec.1 (e_ix (o_ix B.hK) s_ixD (e_var (i := 1)) (e_int))) (s_one (s_ret (e_call ok_p_holds (hr.mono (by omega)) rfl g_p_holds k_p_holds b_p_holds tk (l_cons (e_var (i := 0)) (l_cons (e_var (i := 1)) (l_cons (e_var (i := 2)) (l_nil)))) (lC_len (lC_len (lC_len (lN_len))))))) (s_nil))
        (s_cons (s_asg (e_var (i := 1)) (g_tupD B.hK rfl (gs_cons (g_name (i := 6) sc_p_kept_in.nd) (gs_cons (g_name (i := 7) sc_p_kept_in.nd) (gs_cons (g_name (i := 8) sc_p_kept_in.nd) (gs_nil))))))
        (s_cons (s_asg (e_var (i := 2)) (g_tupD B.hK rfl (gs_cons (g_name (i := 9) sc_p_kept_in.nd) (gs_cons (g_name (i := 10) sc_p_kept_in.nd) (gs_nil)))))
        (s_cons (s_set (i := 3) sc_p_kept_in.nd (e_if (t_cmp (o_in hu) (s_in B.hK) (e_var (i := 6)) (e_globT B.hK rfl B.t_COUNTS_OF_GROUPS.choose_spec.1 B.t_COUNTS_OF_GROUPS.choose_spec.2)) (e_var (i := 10)) (e_var (i := 9))))
        (s_cons (s_set (i := 4) sc_p_kept_in.nd (e_lcF (own := [("step", 11)]) rfl sc_p_kept_in.nd (wi_seq B.hK (e_var (i := 7))) (blkOk_by (N := N_p_kept_in) (sc := defScope st_p_kept_in) (by decide +kernel)) (fun _ _ _ _ _ => g_name (i := 11) sc_p_kept_in.nd) (fun _ _ _ _ _ => b_yes) (fun _ _ _ _ _ => e_ix (o_ix B.hK) s_ixD (e_var (i := 3)) (e_indexD B.hK hu (e_var (i := 0)) (l_cons (e_var (i := 11)) (l_nil)))) (by decide)))
        (s_cons (s_if (t_cmp (op_eqD (lt64 hu)) (s_eq B.hK) (e_var (i := 6)) (e_str)) (s_one (s_ret (e_callB ((cr_all rfl)) s_allD rfl B.z_all (by decide +kernel) (l_cons (e_lcF (own := [("number", 12)]) rfl sc_p_kept_in.nd (wi_seq B.hK (e_var (i := 4))) (blkOk_by (N := N_p_kept_in) (sc := defScope st_p_kept_in) (by decide +kernel)) (fun _ _ _ _ _ => g_name (i := 12) sc_p_kept_in.nd) (fun _ _ _ _ _ => b_yes) (fun _ _ _ _ _ => e_cmp op_le s_le (e_countD B.hK hu (e_var (i := 4)) (l_cons (e_var (i := 12)) (l_nil))) (e_var (i := 8))) (by decide)) (l_nil))))) (s_nil))
        (s_cons (s_set (i := 5) sc_p_kept_in.nd (e_lenSetE B.hK rfl hu rfl B.z_len rfl B.z_set (e_var (i := 4))))
        (s_one (s_ret (e_if (t_cmp (o_in hu) (s_in B.hK) (e_var (i := 6)) (e_tupD (l_cons (e_str) (l_cons (e_str) (l_nil))))) (e_cmp op_le s_le (e_var (i := 5)) (e_var (i := 8))) (e_cmp op_ge s_ge (e_var (i := 5)) (e_var (i := 8)))))))))))))
theorem ok_p_kept_in (B : Fx P w K mg base g) {f : Addr} {fd : FuncData} (F : Fun K "kept_in" "kept_in" st_p_kept_in f fd) {f_p_holds : Addr} {fd_p_holds : FuncData} (ok_p_holds : FnOk P w K mg base (L2.CX P w) 1 f_p_holds fd_p_holds ["steps", "fact", "pattern"] (spM g 3 (d_p_holds g.ns))) (b_p_holds : Binds K fd_p_holds ["steps", "fact", "pattern"] []) (g_p_holds : mg "holds" = some (.ref f_p_holds)) (k_p_holds : PySem.W.keepIn K (.ref f_p_holds) = true) (rec_b : Binds K fd ["steps", "rule", "pattern"] []) (rec_g : mg "kept_in" = some (.ref f)) (rec_k : PySem.W.keepIn K (.ref f) = true) : FnOk P w K mg base (L2.CX P w) 3 f fd ["steps", "rule", "pattern"] (spM g 3 (d_p_kept_in g.ns)) := okr_p_kept_in B F ok_p_holds b_p_holds g_p_holds k_p_holds rec_b rec_g rec_k 2
theorem ok_p_numbered (B : Fx P w K mg base g) {f : Addr} {fd : FuncData} (F : Fun K "numbered" "numbered" st_p_numbered f fd) : FnOk P w K mg base (L2.CX P w) 1 f fd ["things"] (spM g 1 (d_p_numbered g.ns)) :=
  fn_okP B.hx (k := 0) F sc_p_numbered fun cdv A outer s H E hr hu hp tk =>
      s_cons (s_set (i := 1) sc_p_numbered.nd (e_lst (l_nil)))
        (s_cons (s_set (i := 2) sc_p_numbered.nd (e_lst (l_nil)))
        (s_cons (s_forF hp rfl (wi_seq B.hK (e_var (i := 0))) (g_name (i := 3) sc_p_numbered.nd) (s_cons (s_if (t_cmp (o_notin hu) (s_notin B.hK) (e_var (i := 3)) (e_var (i := 1))) (s_one (s_expr (e_append (e_var (i := 1)) (l_cons (e_var (i := 3)) (l_nil))))) (s_nil))
        (s_one (s_expr (e_append (e_var (i := 2)) (l_cons (e_indexD B.hK hu (e_var (i := 1)) (l_cons (e_var (i := 3)) (l_nil))) (l_nil)))))))
        (s_fix (i := 2) (s_one (s_ret (e_callTy (call_tupX) (s_tupD B.hK) rfl B.z_tuple (by decide +kernel) (l_cons (e_var (i := 2)) (l_nil))))))))
theorem ok_p_is_integer (B : Fx P w K mg base g) {f : Addr} {fd : FuncData} (F : Fun K "is_integer" "is_integer" st_p_is_integer f fd) : FnOk P w K mg base (L2.CX P w) 1 f fd ["value"] (spM g 1 (d_p_is_integer g.ns)) :=
  fn_okP B.hx (k := 0) F sc_p_is_integer fun cdv A outer s H E hr hu hp tk =>
      s_one (s_ret (e_and (e_isi (T := "int") B.hK rfl B.z_isinstance rfl B.z_int (by decide +kernel) (e_var (i := 0))) (e_one (e_not (e_isi (T := "bool") B.hK rfl B.z_isinstance rfl B.z_bool (by decide +kernel) (e_var (i := 0)))))))
theorem ok_is_numbering (B : Fx P w K mg base g) {f : Addr} {fd : FuncData} (F : Fun K "_is_numbering" "_is_numbering" st_is_numbering f fd) {f_p_numbered : Addr} {fd_p_numbered : FuncData} (ok_p_numbered : FnOk P w K mg base (L2.CX P w) 1 f_p_numbered fd_p_numbered ["things"] (spM g 1 (d_p_numbered g.ns))) (b_p_numbered : Binds K fd_p_numbered ["things"] []) (g_p_numbered : mg "numbered" = some (.ref f_p_numbered)) (k_p_numbered : PySem.W.keepIn K (.ref f_p_numbered) = true) {f_p_is_integer : Addr} {fd_p_is_integer : FuncData} (ok_p_is_integer : FnOk P w K mg base (L2.CX P w) 1 f_p_is_integer fd_p_is_integer ["value"] (spM g 1 (d_p_is_integer g.ns))) (b_p_is_integer : Binds K fd_p_is_integer ["value"] []) (g_p_is_integer : mg "is_integer" = some (.ref f_p_is_integer)) (k_p_is_integer : PySem.W.keepIn K (.ref f_p_is_integer) = true) : FnOk P w K mg base (L2.CX P w) 2 f fd ["many", "value"] (spM g 2 (d_is_numbering g.ns)) :=
  fn_okP B.hx (k := 1) F sc_is_numbering fun cdv A outer s H E hr hu hp tk =>
      s_cons (s_if (PW.pt (w_or (t_not (t_truth B.hK (e_isi (T := "tuple") B.hK rfl B.z_isinstance rfl B.z_tuple (by decide +kernel) (e_var (i := 1))))) (w_or1 (t_cmp (op_neD (lt64 hu)) (s_ne B.hK) (e_callB (k_len B.hK) s_lenD rfl B.z_len (by decide +kernel) (l_cons (e_var (i := 1)) (l_nil))) (e_var (i := 0)))))) (s_one (s_ret (e_bl))) (s_nil))
        (s_one (s_ret (e_and (e_callB ((cr_all rfl)) s_allD rfl B.z_all (by decide +kernel) (l_cons (e_lcF (own := [("number", 2)]) rfl sc_is_numbering.nd (wi_seq B.hK (e_var (i := 1))) (blkOk_by (N := N_is_numbering) (sc := defScope st_is_numbering) (by decide +kernel)) (fun _ _ _ _ _ => g_name (i := 2) sc_is_numbering.nd) (fun _ _ _ _ _ => b_yes) (fun _ _ _ _ _ => e_call ok_p_is_integer (hr.mono (by decide)) rfl g_p_is_integer k_p_is_integer b_p_is_integer (takes0) (l_cons (e_var (i := 2)) (l_nil)) (lC_len (lN_len))) (by decide)) (l_nil))) (e_one (e_cmp (op_eqD (lt64 hu)) (s_eq B.hK) (e_var (i := 1)) (e_call ok_p_numbered (hr.mono (by decide)) rfl g_p_numbered k_p_numbered b_p_numbered tk (l_cons (e_var (i := 1)) (l_nil)) (lC_len (lN_len))))))))
theorem ok_p_is_pattern (B : Fx P w K mg base g) {f : Addr} {fd : FuncData} (F : Fun K "is_pattern" "is_pattern" st_p_is_pattern f fd) {f_is_numbering : Addr} {fd_is_numbering : FuncData} (ok_is_numbering : FnOk P w K mg base (L2.CX P w) 2 f_is_numbering fd_is_numbering ["many", "value"] (spM g 2 (d_is_numbering g.ns))) (b_is_numbering : Binds K fd_is_numbering ["many", "value"] []) (g_is_numbering : mg "_is_numbering" = some (.ref f_is_numbering)) (k_is_numbering : PySem.W.keepIn K (.ref f_is_numbering) = true) : FnOk P w K mg base (L2.CX P w) 3 f fd ["many", "value"] (spM g 2 (d_p_is_pattern g.ns)) :=
  fn_okP B.hx (k := 2) F sc_p_is_pattern fun cdv A outer s H E hr hu hp tk =>
      s_cons (s_if (PW.pt (w_or (t_not (t_truth B.hK (e_isi (T := "tuple") B.hK rfl B.z_isinstance rfl B.z_tuple (by decide +kernel) (e_var (i := 1))))) (w_or1 (t_cmp (op_neD (lt64 hu)) (s_ne B.hK) (e_callB (k_len B.hK) s_lenD rfl B.z_len (by decide +kernel) (l_cons (e_var (i := 1)) (l_nil))) (e_int))))) (s_one (s_ret (e_bl))) (s_nil))
        (s_cons (s_asg (e_var (i := 1)) (g_tupD B.hK rfl (gs_cons (g_name (i := 2) sc_p_is_pattern.nd) (gs_cons (g_name (i := 3) sc_p_is_pattern.nd) (gs_nil)))))
        (s_cons (s_if (PW.pt (w_or (t_not (t_truth B.hK (e_call ok_is_numbering (hr.mono (by decide)) rfl g_is_numbering k_is_numbering b_is_numbering tk (l_cons (e_var (i := 0)) (l_cons (e_var (i := 2)) (l_nil))) (lC_len (lC_len (lN_len)))))) (w_or1 (t_not (t_truth B.hK (e_call ok_is_numbering (hr.mono (by decide)) rfl g_is_numbering k_is_numbering b_is_numbering tk (l_cons (e_var (i := 0)) (l_cons (e_var (i := 3)) (l_nil))) (lC_len (lC_len (lN_len))))))))) (s_one (s_ret (e_bl))) (s_nil))
        (s_one (s_ret (e_callB ((cr_all rfl)) s_allD rfl B.z_all (by decide +kernel) (l_cons (e_lcF (own := [("at", 4), ("hand", 5)]) rfl sc_p_is_pattern.nd (wi_enum B.hK rfl B.z_enumerate (l_cons (e_var (i := 2)) (l_nil))) (blkOk_by (N := N_p_is_pattern) (sc := defScope st_p_is_pattern) (by decide +kernel)) (fun _ _ _ _ _ => g_tupD B.hK rfl (gs_cons (g_name (i := 4) sc_p_is_pattern.nd) (gs_cons (g_name (i := 5) sc_p_is_pattern.nd) (gs_nil)))) (fun _ _ _ _ _ => b_yes) (fun _ _ _ _ _ => e_cmp (op_eqD (lt64 hu)) (s_eq B.hK) (e_ix (o_ix B.hK) s_ixD (e_var (i := 3)) (e_var (i := 4))) (e_ix (o_ix B.hK) s_ixD (e_var (i := 3)) (e_indexD B.hK hu (e_var (i := 2)) (l_cons (e_var (i := 5)) (l_nil))))) (by decide)) (l_nil)))))))
theorem ok_p_check_pattern (B : Fx P w K mg base g) {f : Addr} {fd : FuncData} (F : Fun K "check_pattern" "check_pattern" st_p_check_pattern f fd) {f_p_is_pattern : Addr} {fd_p_is_pattern : FuncData} (ok_p_is_pattern : FnOk P w K mg base (L2.CX P w) 3 f_p_is_pattern fd_p_is_pattern ["many", "value"] (spM g 2 (d_p_is_pattern g.ns))) (b_p_is_pattern : Binds K fd_p_is_pattern ["many", "value"] []) (g_p_is_pattern : mg "is_pattern" = some (.ref f_p_is_pattern)) (k_p_is_pattern : PySem.W.keepIn K (.ref f_p_is_pattern) = true) : FnOk P w K mg base (L2.CX P w) 4 f fd ["steps", "pattern"] (spM g 2 (d_p_check_pattern g.ns)) :=
  fn_okP B.hx (k := 3) F sc_p_check_pattern fun cdv A outer s H E hr hu hp tk =>
      s_one (s_if (t_not (t_truth B.hK (e_call ok_p_is_pattern (hr.mono (by decide)) rfl g_p_is_pattern k_p_is_pattern b_p_is_pattern tk (l_cons (e_callB (k_len B.hK) s_lenD rfl B.z_len (by decide +kernel) (l_cons (e_var (i := 0)) (l_nil))) (l_cons (e_var (i := 1)) (l_nil))) (lC_len (lC_len (lN_len)))))) (s_one (s_raise0 (c := 2) rfl tk B.x_BadPattern rfl)) (s_nil))
theorem ok_p_are_unlike_steps (B : Fx P w K mg base g) {f : Addr} {fd : FuncData} (F : Fun K "are_unlike_steps" "are_unlike_steps" st_p_are_unlike_steps f fd) : FnOk P w K mg base (L2.CX P w) 1 f fd ["steps", "value"] (spM g 2 (d_p_are_unlike_steps g.ns)) :=
  fn_okP B.hx (k := 0) F sc_p_are_unlike_steps fun cdv A outer s H E hr hu hp tk =>
      s_cons (s_if (PW.pt (w_or (t_not (t_truth B.hK (e_isi (T := "tuple") B.hK rfl B.z_isinstance rfl B.z_tuple (by decide +kernel) (e_var (i := 1))))) (w_or1 (t_cmp op_gt s_gt (e_callB (k_len B.hK) s_lenD rfl B.z_len (by decide +kernel) (l_cons (e_var (i := 1)) (l_nil))) (e_callB (k_len B.hK) s_lenD rfl B.z_len (by decide +kernel) (l_cons (e_var (i := 0)) (l_nil))))))) (s_one (s_ret (e_bl))) (s_nil))
        (s_one (s_ret (e_callB ((cr_all rfl)) s_allD rfl B.z_all (by decide +kernel) (l_cons (e_lcF (own := [("at", 2), ("step", 3)]) rfl sc_p_are_unlike_steps.nd (wi_enum B.hK rfl B.z_enumerate (l_cons (e_var (i := 1)) (l_nil))) (blkOk_by (N := N_p_are_unlike_steps) (sc := defScope st_p_are_unlike_steps) (by decide +kernel)) (fun _ _ _ _ _ => g_tupD B.hK rfl (gs_cons (g_name (i := 2) sc_p_are_unlike_steps.nd) (gs_cons (g_name (i := 3) sc_p_are_unlike_steps.nd) (gs_nil)))) (fun _ _ _ _ _ => b_yes) (fun _ _ _ _ _ => e_and (e_cmp (o_in hu) (s_in B.hK) (e_var (i := 3)) (e_var (i := 0))) (e_one (e_cmp (o_notin hu) (s_notin B.hK) (e_var (i := 3)) (e_sliceD B.hK (e_var (i := 1)) (o_none) (o_some (e_var (i := 2))))))) (by decide)) (l_nil)))))
theorem ok_is_count (B : Fx P w K mg base g) {f : Addr} {fd : FuncData} (F : Fun K "_is_count" "_is_count" st_is_count f fd) {f_p_are_unlike_steps : Addr} {fd_p_are_unlike_steps : FuncData} (ok_p_are_unlike_steps : FnOk P w K mg base (L2.CX P w) 1 f_p_are_unlike_steps fd_p_are_unlike_steps ["steps", "value"] (spM g 2 (d_p_are_unlike_steps g.ns))) (b_p_are_unlike_steps : Binds K fd_p_are_unlike_steps ["steps", "value"] []) (g_p_are_unlike_steps : mg "are_unlike_steps" = some (.ref f_p_are_unlike_steps)) (k_p_are_unlike_steps : PySem.W.keepIn K (.ref f_p_are_unlike_steps) = true) {f_p_is_integer : Addr} {fd_p_is_integer : FuncData} (ok_p_is_integer : FnOk P w K mg base (L2.CX P w) 1 f_p_is_integer fd_p_is_integer ["value"] (spM g 1 (d_p_is_integer g.ns))) (b_p_is_integer : Binds K fd_p_is_integer ["value"] []) (g_p_is_integer : mg "is_integer" = some (.ref f_p_is_integer)) (k_p_is_integer : PySem.W.keepIn K (.ref f_p_is_integer) = true) : FnOk P w K mg base (L2.CX P w) 2 f fd ["steps", "value"] (spM g 2 (d_is_count g.ns)) :=
  fn_okP B.hx (k := 1) F sc_is_count fun cdv A outer s H E hr hu hp tk =>
      s_cons (s_asg (e_var (i := 1)) (g_tupD B.hK rfl (gs_cons (g_name (i := 2) sc_is_count.nd) (gs_cons (g_name (i := 3) sc_is_count.nd) (gs_cons (g_name (i := 4) sc_is_count.nd) (gs_nil))))))
        (s_cons (s_if (PW.pt (w_or (t_cmp (o_notin hu) (s_notin B.hK) (e_var (i := 2)) (e_globT B.hK rfl B.t_COUNTS.choose_spec.1 B.t_COUNTS.choose_spec.2)) (w_or (t_not (t_truth B.hK (e_call ok_p_is_integer (hr.mono (by decide)) rfl g_p_is_integer k_p_is_integer b_p_is_integer tk (l_cons (e_var (i := 4)) (l_nil)) (lC_len (lN_len))))) (w_or1 (t_not (t_chain op_le s_le op_le s_le (e_int) (e_var (i := 4)) (e_glob (u := .int 6) (v := .int 6) rfl B.g_MOST_COUNTED.choose_spec ⟨_, rfl⟩ (fun _ => rfl)))))))) (s_one (s_ret (e_bl))) (s_nil))
        (s_cons (s_if (PW.pt (w_or (t_not (t_truth B.hK (e_call ok_p_are_unlike_steps (hr.mono (by decide)) rfl g_p_are_unlike_steps k_p_are_unlike_steps b_p_are_unlike_steps tk (l_cons (e_var (i := 0)) (l_cons (e_var (i := 3)) (l_nil))) (lC_len (lC_len (lN_len)))))) (w_or1 (t_not (t_truth B.hK (e_var (i := 3))))))) (s_one (s_ret (e_bl))) (s_nil))
        (s_one (s_ret (e_cmp (op_eqD (lt64 hu)) (s_eq B.hK) (e_var (i := 3)) (e_callTy (call_tupX) (s_tupD B.hK) rfl B.z_tuple (by decide +kernel) (l_cons (e_lcF (own := [("step", 5)]) rfl sc_is_count.nd (wi_seq B.hK (e_var (i := 0))) (blkOk_by (N := N_is_count) (sc := defScope st_is_count) (by decide +kernel)) (fun _ _ _ _ _ => g_name (i := 5) sc_is_count.nd) (fun _ _ _ _ _ => b_one (t_cmp (o_in hu) (s_in B.hK) (e_var (i := 5)) (e_var (i := 3)))) (fun _ _ _ _ _ => e_var (i := 5)) (by decide)) (l_nil))))))))
theorem ok_p_is_fact (B : Fx P w K mg base g) {f : Addr} {fd : FuncData} (F : Fun K "is_fact" "is_fact" st_p_is_fact f fd) : FnOk P w K mg base (L2.CX P w) 1 f fd ["steps", "value"] (spM g 2 (d_p_is_fact g.ns)) :=
  fn_okP B.hx (k := 0) F sc_p_is_fact fun cdv A outer s H E hr hu hp tk =>
      s_cons (s_if (PW.pt (w_or (t_not (t_truth B.hK (e_isi (T := "tuple") B.hK rfl B.z_isinstance rfl B.z_tuple (by decide +kernel) (e_var (i := 1))))) (w_or1 (t_cmp (op_neD (lt64 hu)) (s_ne B.hK) (e_callB (k_len B.hK) s_lenD rfl B.z_len (by decide +kernel) (l_cons (e_var (i := 1)) (l_nil))) (e_int))))) (s_one (s_ret (e_bl))) (s_nil))
        (s_cons (s_asg (e_var (i := 1)) (g_tupD B.hK rfl (gs_cons (g_name (i := 2) sc_p_is_fact.nd) (gs_cons (g_name (i := 3) sc_p_is_fact.nd) (gs_cons (g_name (i := 4) sc_p_is_fact.nd) (gs_nil))))))
        (s_cons (s_if (PW.pt (w_or (t_not (t_truth B.hK (e_isi (T := "str") B.hK rfl B.z_isinstance rfl B.z_str (by decide +kernel) (e_var (i := 2))))) (w_or1 (t_notinG B.d_OPPOSITES.choose_spec.2 rfl B.d_OPPOSITES.choose_spec.1 (e_var (i := 2)))))) (s_one (s_ret (e_bl))) (s_nil))
        (s_one (s_ret (e_and (e_cmp (o_in hu) (s_in B.hK) (e_var (i := 3)) (e_var (i := 0))) (e_and (e_cmp (o_in hu) (s_in B.hK) (e_var (i := 4)) (e_var (i := 0))) (e_one (e_cmp op_lt s_lt (e_indexD B.hK hu (e_var (i := 0)) (l_cons (e_var (i := 3)) (l_nil))) (e_indexD B.hK hu (e_var (i := 0)) (l_cons (e_var (i := 4)) (l_nil)))))))))))
theorem ok_is_plain_rule (B : Fx P w K mg base g) {f : Addr} {fd : FuncData} (F : Fun K "_is_plain_rule" "_is_plain_rule" st_is_plain_rule f fd) {f_is_count : Addr} {fd_is_count : FuncData} (ok_is_count : FnOk P w K mg base (L2.CX P w) 2 f_is_count fd_is_count ["steps", "value"] (spM g 2 (d_is_count g.ns))) (b_is_count : Binds K fd_is_count ["steps", "value"] []) (g_is_count : mg "_is_count" = some (.ref f_is_count)) (k_is_count : PySem.W.keepIn K (.ref f_is_count) = true) {f_p_is_fact : Addr} {fd_p_is_fact : FuncData} (ok_p_is_fact : FnOk P w K mg base (L2.CX P w) 1 f_p_is_fact fd_p_is_fact ["steps", "value"] (spM g 2 (d_p_is_fact g.ns))) (b_p_is_fact : Binds K fd_p_is_fact ["steps", "value"] []) (g_p_is_fact : mg "is_fact" = some (.ref f_p_is_fact)) (k_p_is_fact : PySem.W.keepIn K (.ref f_p_is_fact) = true) : FnOk P w K mg base (L2.CX P w) 3 f fd ["steps", "value"] (spM g 2 (d_is_plain_rule g.ns)) :=
  fn_okP B.hx (k := 2) F sc_is_plain_rule fun cdv A outer s H E hr hu hp tk =>
      s_cons (s_if (PW.pt (w_or (t_not (t_truth B.hK (e_isi (T := "tuple") B.hK rfl B.z_isinstance rfl B.z_tuple (by decide +kernel) (e_var (i := 1))))) (w_or1 (t_cmp (op_neD (lt64 hu)) (s_ne B.hK) (e_callB (k_len B.hK) s_lenD rfl B.z_len (by decide +kernel) (l_cons (e_var (i := 1)) (l_nil))) (e_int))))) (s_one (s_ret (e_bl))) (s_nil))
        (s_one (s_ret (e_or (e_call ok_p_is_fact (hr.mono (by decide)) rfl g_p_is_fact k_p_is_fact b_p_is_fact tk (l_cons (e_var (i := 0)) (l_cons (e_var (i := 1)) (l_nil))) (lC_len (lC_len (lN_len)))) (e_one (e_call ok_is_count (hr.mono (by decide)) rfl g_is_count k_is_count b_is_count tk (l_cons (e_var (i := 0)) (l_cons (e_var (i := 1)) (l_nil))) (lC_len (lC_len (lN_len))))))))
theorem ok_p_is_rule (B : Fx P w K mg base g) {f : Addr} {fd : FuncData} (F : Fun K "is_rule" "is_rule" st_p_is_rule f fd) {f_is_plain_rule : Addr} {fd_is_plain_rule : FuncData} (ok_is_plain_rule : FnOk P w K mg base (L2.CX P w) 3 f_is_plain_rule fd_is_plain_rule ["steps", "value"] (spM g 2 (d_is_plain_rule g.ns))) (b_is_plain_rule : Binds K fd_is_plain_rule ["steps", "value"] []) (g_is_plain_rule : mg "_is_plain_rule" = some (.ref f_is_plain_rule)) (k_is_plain_rule : PySem.W.keepIn K (.ref f_is_plain_rule) = true) {f_p_is_fact : Addr} {fd_p_is_fact : FuncData} (ok_p_is_fact : FnOk P w K mg base (L2.CX P w) 1 f_p_is_fact fd_p_is_fact ["steps", "value"] (spM g 2 (d_p_is_fact g.ns))) (b_p_is_fact : Binds K fd_p_is_fact ["steps", "value"] []) (g_p_is_fact : mg "is_fact" = some (.ref f_p_is_fact)) (k_p_is_fact : PySem.W.keepIn K (.ref f_p_is_fact) = true) : FnOk P w K mg base (L2.CX P w) 4 f fd ["steps", "value"] (spM g 2 (d_p_is_rule g.ns)) :=
  fn_okP B.hx (k := 3) F sc_p_is_rule fun cdv A outer s H E hr hu hp tk =>
      s_cons (s_if (PW.pt (w_or (t_not (t_truth B.hK (e_isi (T := "tuple") B.hK rfl B.z_isinstance rfl B.z_tuple (by decide +kernel) (e_var (i := 1))))) (w_or (t_cmp (op_neD (lt64 hu)) (s_ne B.hK) (e_callB (k_len B.hK) s_lenD rfl B.z_len (by decide +kernel) (l_cons (e_var (i := 1)) (l_nil))) (e_int)) (w_or1 (t_cmp (op_neD (lt64 hu)) (s_ne B.hK) (e_ix (o_ix B.hK) s_ixD (e_var (i := 1)) (e_int)) (e_str)))))) (s_one (s_ret (e_call ok_is_plain_rule (hr.mono (by decide)) rfl g_is_plain_rule k_is_plain_rule b_is_plain_rule tk (l_cons (e_var (i := 0)) (l_cons (e_var (i := 1)) (l_nil))) (lC_len (lC_len (lN_len)))))) (s_nil))
        (s_one (s_ret (e_and (e_call ok_p_is_fact (hr.mono (by decide)) rfl g_p_is_fact k_p_is_fact b_p_is_fact tk (l_cons (e_var (i := 0)) (l_cons (e_ix (o_ix B.hK) s_ixD (e_var (i := 1)) (e_int)) (l_nil))) (lC_len (lC_len (lN_len)))) (e_one (e_call ok_is_plain_rule (hr.mono (by decide)) rfl g_is_plain_rule k_is_plain_rule b_is_plain_rule tk (l_cons (e_var (i := 0)) (l_cons (e_ix (o_ix B.hK) s_ixD (e_var (i := 1)) (e_int)) (l_nil))) (lC_len (lC_len (lN_len))))))))
theorem ok_p_check_rules (B : Fx P w K mg base g) {f : Addr} {fd : FuncData} (F : Fun K "check_rules" "check_rules" st_p_check_rules f fd) {f_p_is_rule : Addr} {fd_p_is_rule : FuncData} (ok_p_is_rule : FnOk P w K mg base (L2.CX P w) 4 f_p_is_rule fd_p_is_rule ["steps", "value"] (spM g 2 (d_p_is_rule g.ns))) (b_p_is_rule : Binds K fd_p_is_rule ["steps", "value"] []) (g_p_is_rule : mg "is_rule" = some (.ref f_p_is_rule)) (k_p_is_rule : PySem.W.keepIn K (.ref f_p_is_rule) = true) : FnOk P w K mg base (L2.CX P w) 5 f fd ["steps", "rules"] (spM g 2 (d_p_check_rules g.ns)) :=
  fn_okP B.hx (k := 4) F sc_p_check_rules fun cdv A outer s H E hr hu hp tk =>
      s_cons (s_if (t_not (t_truth B.hK (e_isi (T := "list") B.hK rfl B.z_isinstance rfl B.z_list (by decide +kernel) (e_var (i := 1))))) (s_one (s_raise0 (c := 1) rfl tk B.x_NoList rfl)) (s_nil))
        (s_one (s_forF hp rfl (wi_enum B.hK rfl B.z_enumerate (l_cons (e_var (i := 1)) (l_nil))) (g_tupD B.hK rfl (gs_cons (g_name (i := 2) sc_p_check_rules.nd) (gs_cons (g_name (i := 3) sc_p_check_rules.nd) (gs_nil)))) (s_one (s_if (t_not (t_truth B.hK (e_call ok_p_is_rule (hr.mono (by decide)) rfl g_p_is_rule k_p_is_rule b_p_is_rule tk (l_cons (e_var (i := 0)) (l_cons (e_var (i := 3)) (l_nil))) (lC_len (lC_len (lN_len)))))) (s_one (s_xR (c := 3) rfl tk B.x_BadRule (hr.mono (by decide)) rfl (e_var (i := 2)))) (s_nil)))))
theorem ok_p_keeps (B : Fx P w K mg base g) {f : Addr} {fd : FuncData} (F : Fun K "keeps" "keeps" st_p_keeps f fd) {f_p_kept_in : Addr} {fd_p_kept_in : FuncData} (ok_p_kept_in : FnOk P w K mg base (L2.CX P w) 3 f_p_kept_in fd_p_kept_in ["steps", "rule", "pattern"] (spM g 3 (d_p_kept_in g.ns))) (b_p_kept_in : Binds K fd_p_kept_in ["steps", "rule", "pattern"] []) (g_p_kept_in : mg "kept_in" = some (.ref f_p_kept_in)) (k_p_kept_in : PySem.W.keepIn K (.ref f_p_kept_in) = true) {f_p_check_pattern : Addr} {fd_p_check_pattern : FuncData} (ok_p_check_pattern : FnOk P w K mg base (L2.CX P w) 4 f_p_check_pattern fd_p_check_pattern ["steps", "pattern"] (spM g 2 (d_p_check_pattern g.ns))) (b_p_check_pattern : Binds K fd_p_check_pattern ["steps", "pattern"] []) (g_p_check_pattern : mg "check_pattern" = some (.ref f_p_check_pattern)) (k_p_check_pattern : PySem.W.keepIn K (.ref f_p_check_pattern) = true) {f_p_check_rules : Addr} {fd_p_check_rules : FuncData} (ok_p_check_rules : FnOk P w K mg base (L2.CX P w) 5 f_p_check_rules fd_p_check_rules ["steps", "rules"] (spM g 2 (d_p_check_rules g.ns))) (b_p_check_rules : Binds K fd_p_check_rules ["steps", "rules"] []) (g_p_check_rules : mg "check_rules" = some (.ref f_p_check_rules)) (k_p_check_rules : PySem.W.keepIn K (.ref f_p_check_rules) = true) : FnOk P w K mg base (L2.CX P w) 6 f fd ["steps", "rule", "pattern"] (spM g 3 (d_p_keeps g.ns)) :=
  fn_okP B.hx (k := 5) F sc_p_keeps fun cdv A outer s H E hr hu hp tk =>
      s_cons (s_expr (e_call ok_p_check_rules (hr.mono (by decide)) rfl g_p_check_rules k_p_check_rules b_p_check_rules tk (l_cons (e_var (i := 0)) (l_cons (e_lstD (l_cons (e_var (i := 1)) (l_nil))) (l_nil))) (lC_len (lC_len (lN_len)))))
        (s_cons (s_expr (e_call ok_p_check_pattern (hr.mono (by decide)) rfl g_p_check_pattern k_p_check_pattern b_p_check_pattern tk (l_cons (e_var (i := 0)) (l_cons (e_var (i := 2)) (l_nil))) (lC_len (lC_len (lN_len)))))
        (s_one (s_ret (e_call ok_p_kept_in (hr.mono (by decide)) rfl g_p_kept_in k_p_kept_in b_p_kept_in tk (l_cons (e_var (i := 0)) (l_cons (e_var (i := 1)) (l_cons (e_var (i := 2)) (l_nil)))) (lC_len (lC_len (lC_len (lN_len))))))))
theorem ok_law_raised (B : Fx P w K mg base g) {f : Addr} {fd : FuncData} (F : Fun K "_law_raised" "_law_raised" st_law_raised f fd) {f_p_keeps : Addr} {fd_p_keeps : FuncData} (ok_p_keeps : FnOk P w K mg base (L2.CX P w) 6 f_p_keeps fd_p_keeps ["steps", "rule", "pattern"] (spM g 3 (d_p_keeps g.ns))) (b_p_keeps : Binds K fd_p_keeps ["steps", "rule", "pattern"] []) (g_p_keeps : mg "keeps" = some (.ref f_p_keeps)) (k_p_keeps : PySem.W.keepIn K (.ref f_p_keeps) = true) : FnOk P w K mg base (L2.CX P w) 7 f fd ["steps", "rule", "pattern"] (spM g 3 (d_law_raised g.ns)) :=
  fn_okP B.hx (k := 6) F sc_law_raised fun cdv A outer s H E hr hu hp tk =>
      s_cons (s_tryM B.hx rfl rfl sc_law_raised.nd tk (fun W1 pn xe tk1 hp1 => s_one (s_expr (e_call ok_p_keeps (hr.mono (by decide)) rfl g_p_keeps k_p_keeps b_p_keeps tk1 (l_cons (e_var (i := 0)) (l_cons (e_var (i := 1)) (l_cons (e_var (i := 2)) (l_nil)))) (lC_len (lC_len (lC_len (lN_len))))))) (.named (tks := tk0 4 fun c => c == 3 || 3 == 0) (cv := .ref (g.cl 3)) (i := 3) rfl rfl ⟨rfl, by decide, .inl B.m_BadRule⟩ (fun c k h => by obtain ⟨hc, rfl⟩ := tk0_ok h; exact B.q_BadRule c hc) (fun a oe c dd f pn ht hz hf => s_one (s_ret (e_tupD (l_cons (e_str) (l_cons (e_xfT (by decide) ht B.xf_BadRule B.nx_BadRule hz hf (e_var (i := 3))) (l_nil))))))
        (.one (tks := tk0 4 fun c => c == 2 || 2 == 0) (cv := .ref (g.cl 2)) ⟨rfl, by decide, .inl B.m_BadPattern⟩ (fun c k h => by obtain ⟨hc, rfl⟩ := tk0_ok h; exact B.q_BadPattern c hc) (fun a pn => s_one (s_ret (e_str)))
        (.nil))))
        (s_one (s_ret (e_non)))
theorem ok_law_holds (B : Fx P w K mg base g) {f : Addr} {fd : FuncData} (F : Fun K "_law_holds" "_law_holds" st_law_holds f fd) : FnOk P w K mg base (L2.CX P w) 1 f fd ["steps", "pattern", "fact"] (spM g 3 (d_law_holds g.ns)) :=
  fn_okP B.hx (k := 0) F sc_law_holds fun cdv A outer s H E hr hu hp tk =>
      s_cons (s_asg (e_var (i := 2)) (g_tupD B.hK rfl (gs_cons (g_name (i := 4) sc_law_holds.nd) (gs_cons (g_name (i := 5) sc_law_holds.nd) (gs_cons (g_name (i := 6) sc_law_holds.nd) (gs_nil))))))
        (s_cons (s_set (i := 3) sc_law_holds.nd (e_if (t_cmp (o_in hu) (s_in B.hK) (e_var (i := 4)) (e_tupD (l_cons (e_str) (l_cons (e_str) (l_nil))))) (e_ix (o_ix B.hK) s_ixD (e_var (i := 1)) (e_int)) (e_ix (o_ix B.hK) s_ixD (e_var (i := 1)) (e_int))))
        (s_one (s_ret (e_cmp (op_eqD (lt64 hu)) (s_eq B.hK) (e_cmp (op_eqD (lt64 hu)) (s_eq B.hK) (e_ix (o_ix B.hK) s_ixD (e_var (i := 3)) (e_indexD B.hK hu (e_var (i := 0)) (l_cons (e_var (i := 5)) (l_nil)))) (e_ix (o_ix B.hK) s_ixD (e_var (i := 3)) (e_indexD B.hK hu (e_var (i := 0)) (l_cons (e_var (i := 6)) (l_nil))))) (e_cmp (o_in hu) (s_in B.hK) (e_var (i := 4)) (e_tupD (l_cons (e_str) (l_cons (e_str) (l_nil)))))))))
theorem okr_law_keeps (B : Fx P w K mg base g) {f : Addr} {fd : FuncData} (F : Fun K "_law_keeps" "_law_keeps" st_law_keeps f fd) {f_law_holds : Addr} {fd_law_holds : FuncData} (ok_law_holds : FnOk P w K mg base (L2.CX P w) 1 f_law_holds fd_law_holds ["steps", "pattern", "fact"] (spM g 3 (d_law_holds g.ns))) (b_law_holds : Binds K fd_law_holds ["steps", "pattern", "fact"] []) (g_law_holds : mg "_law_holds" = some (.ref f_law_holds)) (k_law_holds : PySem.W.keepIn K (.ref f_law_holds) = true) (rec_b : Binds K fd ["steps", "rule", "pattern"] []) (rec_g : mg "_law_keeps" = some (.ref f)) (rec_k : PySem.W.keepIn K (.ref f) = true) (n : Nat) : FnOk P w K mg base (L2.CX P w) (1 + n) f fd ["steps", "rule", "pattern"] (spM g 3 (runP (r_law_keeps g.ns n))) := by
  induction n with
  | zero => exact fn_no (ps := ["steps", "rule", "pattern"])
  | succ n rec_ok =>
    exact fn_okP B.hx (k := 1 + n) F sc_law_keeps fun cdv A outer s H E hr hu hp tk =>
      s_cons (s_if (t_cmp (op_eqD (lt64 hu)) (s_eq B.hK) (e_ix (o_ix B.hK) s_ixD (e_var (i := 1)) (e_int)) (e_str)) (s_one (s_ret (e_or (e_not (e_call ok_law_holds (hr.mono (by omega)) rfl g_law_holds k_law_holds b_law_holds tk (l_cons (e_var (i := 0)) (l_cons (e_var (i := 2)) (l_cons (e_ix (o_ix B.hK) s_ixD (e_var (i := 1)) (e_int)) (l_nil)))) (lC_len (lC_len (lC_len (lN_len)))))) (e_one (e_call rec_ok (hr.mono (by omega)) rfl rec_g rec_k rec_b tk (l_cons (e_var (i := 0)) (l_cons (e_ix (o_ix B.hK) s_ixD (e_var (i := 1)) (e_int)) (l_cons (e_var (i := 2)) (l_nil)))) (lC_len (lC_len (lC_len (lN_len))))))))) (s_nil))
        (s_cons (s_if (t_cmp (o_in hu) (s_in B.hK) (e_ix (o_ix B.hK) s_ixD (e_var (i := 1)) (e_int)) (e_tupD (l_cons (e_str) (l_cons (e_str) (l_cons (e_str) (l_cons (e_str) (l_nil))))))) (s_one (s_ret (e_call ok_law_holds (hr.mono (by omega)) rfl g_law_holds k_law_holds b_law_holds tk (l_cons (e_var (i := 0)) (l_cons (e_var (i := 2)) (l_cons (e_var (i := 1)) (l_nil)))) (lC_len (lC_len (lC_len (lN_len))))))) (s_nil))
        (s_cons (s_set (i := 3) sc_law_keeps.nd (e_if (t_cmp (o_in hu) (s_in B.hK) (e_ix (o_ix B.hK) s_ixD (e_var (i := 1)) (e_int)) (e_tupD (l_cons (e_str) (l_cons (e_str) (l_nil))))) (e_ix (o_ix B.hK) s_ixD (e_var (i := 2)) (e_int)) (e_ix (o_ix B.hK) s_ixD (e_var (i := 2)) (e_int))))
        (s_cons (s_set (i := 4) sc_law_keeps.nd (e_lcF (own := [("step", 6)]) rfl sc_law_keeps.nd (wi_seq B.hK (e_ix (o_ix B.hK) s_ixD (e_var (i := 1)) (e_int))) (blkOk_by (N := N_law_keeps) (sc := defScope st_law_keeps) (by decide +kernel)) (fun _ _ _ _ _ => g_name (i := 6) sc_law_keeps.nd) (fun _ _ _ _ _ => b_yes) (fun _ _ _ _ _ => e_ix (o_ix B.hK) s_ixD (e_var (i := 3)) (e_indexD B.hK hu (e_var (i := 0)) (l_cons (e_var (i := 6)) (l_nil)))) (by decide)))
        (s_cons (s_if (t_cmp (op_eqD (lt64 hu)) (s_eq B.hK) (e_ix (o_ix B.hK) s_ixD (e_var (i := 1)) (e_int)) (e_str)) (s_one (s_ret (e_cmp (op_eqD (lt64 hu)) (s_eq B.hK) (e_lcF (own := [("number", 7)]) rfl sc_law_keeps.nd (wi_seq B.hK (e_var (i := 4))) (blkOk_by (N := N_law_keeps) (sc := defScope st_law_keeps) (by decide +kernel)) (fun _ _ _ _ _ => g_name (i := 7) sc_law_keeps.nd) (fun _ _ _ _ _ => b_one (t_cmp op_gt s_gt (e_countD B.hK hu (e_var (i := 4)) (l_cons (e_var (i := 7)) (l_nil))) (e_ix (o_ix B.hK) s_ixD (e_var (i := 1)) (e_int)))) (fun _ _ _ _ _ => e_var (i := 7)) (by decide)) (e_lstD (l_nil))))) (s_nil))
        (s_cons (s_set (i := 5) sc_law_keeps.nd (e_lenSetE B.hK rfl hu rfl B.z_len rfl B.z_set (e_var (i := 4))))
        (s_one (s_ret (e_if (t_cmp (o_in hu) (s_in B.hK) (e_ix (o_ix B.hK) s_ixD (e_var (i := 1)) (e_int)) (e_tupD (l_cons (e_str) (l_cons (e_str) (l_nil))))) (e_cmp op_le s_le (e_var (i := 5)) (e_ix (o_ix B.hK) s_ixD (e_var (i := 1)) (e_int))) (e_cmp op_ge s_ge (e_var (i := 5)) (e_ix (o_ix B.hK) s_ixD (e_var (i := 1)) (e_int)))))))))))
theorem ok_law_keeps (B : Fx P w K mg base g) {f : Addr} {fd : FuncData} (F : Fun K "_law_keeps" "_law_keeps" st_law_keeps f fd) {f_law_holds : Addr} {fd_law_holds : FuncData} (ok_law_holds : FnOk P w K mg base (L2.CX P w) 1 f_law_holds fd_law_holds ["steps", "pattern", "fact"] (spM g 3 (d_law_holds g.ns))) (b_law_holds : Binds K fd_law_holds ["steps", "pattern", "fact"] []) (g_law_holds : mg "_law_holds" = some (.ref f_law_holds)) (k_law_holds : PySem.W.keepIn K (.ref f_law_holds) = true) (rec_b : Binds K fd ["steps", "rule", "pattern"] []) (rec_g : mg "_law_keeps" = some (.ref f)) (rec_k : PySem.W.keepIn K (.ref f) = true) : FnOk P w K mg base (L2.CX P w) 3 f fd ["steps", "rule", "pattern"] (spM g 3 (d_law_keeps g.ns)) := okr_law_keeps B F ok_law_holds b_law_holds g_law_holds k_law_holds rec_b rec_g rec_k 2
theorem ok_law_take (B : Fx P w K mg base g) {f : Addr} {fd : FuncData} (F : Fun K "_law_take" "_law_take" st_law_take f fd) : FnOk P w K mg base (L2.CX P w) 1 f fd ["feed", "bound"] (spM g 2 (d_law_take g.ns)) :=
  fn_okM B.hx (k := 0) F sc_law_take fun cdv A outer s H E hr hu hp tk =>
      s_cons (s_if (t_cmp op_gt s_gt (e_ix (o_ix B.hK) s_ixD (e_var (i := 0)) (e_int)) (e_int)) (s_cons (s_set (i := 2) sc_law_take.nd (e_op op_mod s_mod (e_callTy (call_int1) s_int rfl B.z_int (by decide +kernel) (l_cons (e_ix (o_ix B.hK) s_ixD (e_var (i := 0)) (e_int)) (l_nil))) (e_var (i := 1))))
        (s_cons (s_put (e_var (i := 0)) (e_int) (e_op op_fdiv s_div (e_ix (o_ix B.hK) s_ixD (e_var (i := 0)) (e_int)) (e_var (i := 1))))
        (s_one (s_ret (e_var (i := 2)))))) (s_nil))
        (s_cons (s_put (e_var (i := 0)) (e_int) (e_op op_mod s_mod (e_callTy (call_int1) s_int rfl B.z_int (by decide +kernel) (l_cons (e_op o_add (s_addD B.hK) (e_op o_mulF (s_mulF B.hK) (e_ix (o_ix B.hK) s_ixD (e_var (i := 0)) (e_int)) (e_int)) (e_int)) (l_nil))) (e_int)))
        (s_one (s_ret (e_op op_mod s_mod (e_callTy (call_int1) s_int rfl B.z_int (by decide +kernel) (l_cons (e_op op_fdiv s_div (e_ix (o_ix B.hK) s_ixD (e_var (i := 0)) (e_int)) (e_int)) (l_nil))) (e_var (i := 1))))))
theorem ok_law_pick (B : Fx P w K mg base g) {f : Addr} {fd : FuncData} (F : Fun K "_law_pick" "_law_pick" st_law_pick f fd) {f_law_take : Addr} {fd_law_take : FuncData} (ok_law_take : FnOk P w K mg base (L2.CX P w) 1 f_law_take fd_law_take ["feed", "bound"] (spM g 2 (d_law_take g.ns))) (b_law_take : Binds K fd_law_take ["feed", "bound"] []) (g_law_take : mg "_law_take" = some (.ref f_law_take)) (k_law_take : PySem.W.keepIn K (.ref f_law_take) = true) : FnOk P w K mg base (L2.CX P w) 2 f fd ["feed", "some"] (spM g 2 (d_law_pick g.ns)) :=
  fn_okM B.hx (k := 1) F sc_law_pick fun cdv A outer s H E hr hu hp tk =>
      s_one (s_ret (e_ix (o_ix B.hK) s_ixD (e_var (i := 1)) (e_call ok_law_take (hr.mono (by decide)) rfl g_law_take k_law_take b_law_take tk (l_cons (e_var (i := 0)) (l_cons (e_callB (k_len B.hK) s_lenD rfl B.z_len (by decide +kernel) (l_cons (e_var (i := 1)) (l_nil))) (l_nil))) (lC_len (lC_len (lN_len))))))
theorem ok_law_values (B : Fx P w K mg base g) {f : Addr} {fd : FuncData} (F : Fun K "_law_values" "_law_values" st_law_values f fd) {f_law_pick : Addr} {fd_law_pick : FuncData} (ok_law_pick : FnOk P w K mg base (L2.CX P w) 2 f_law_pick fd_law_pick ["feed", "some"] (spM g 2 (d_law_pick g.ns))) (b_law_pick : Binds K fd_law_pick ["feed", "some"] []) (g_law_pick : mg "_law_pick" = some (.ref f_law_pick)) (k_law_pick : PySem.W.keepIn K (.ref f_law_pick) = true) : FnOk P w K mg base (L2.CX P w) 3 f fd ["feed", "steps", "rule"] (spM g 3 (d_law_values g.ns)) :=
  fn_okM B.hx (k := 2) F sc_law_values fun cdv A outer s H E hr hu hp tk =>
      s_cons (s_par (i := 6) (j := 7) rfl sc_law_values.nd (l_cons (e_callTy (call_tupX) (s_tupD B.hK) rfl B.z_tuple (by decide +kernel) (l_cons (e_var (i := 1)) (l_nil))) (l_cons (e_ix (o_ix B.hK) s_ixD (e_var (i := 1)) (e_int)) (l_nil))))
        (s_cons (s_set (i := 3) sc_law_values.nd (e_lstD (l_cons (e_non) (l_cons (e_tupD (l_nil)) (l_cons (e_sliceD B.hK (e_var (i := 2)) (o_none) (o_some (e_int))) (l_cons (e_op o_add (s_addD B.hK) (e_var (i := 2)) (e_tupD (l_cons (e_int) (l_nil)))) (l_cons (e_callTy (k_lst) (s_lstD B.hK) rfl B.z_list (by decide +kernel) (l_cons (e_var (i := 2)) (l_nil))) (l_cons (e_rev B.hK (e_var (i := 2))) (l_cons (e_tupD (l_cons (e_str) (l_cons (e_var (i := 2)) (l_cons (e_var (i := 2)) (l_nil))))) (l_nil))))))))))
        (s_cons (s_set (i := 3) sc_law_values.nd (e_op o_add (s_addD B.hK) (e_var (i := 3)) (e_lstD (l_cons (e_tupD (l_cons (e_str) (l_cons (e_non) (l_cons (e_var (i := 2)) (l_nil))))) (l_cons (e_tupD (l_cons (e_var (i := 2)) (l_nil))) (l_cons (e_int) (l_cons (e_str) (l_nil))))))))
        (s_cons (s_set (i := 3) sc_law_values.nd (e_op o_add (s_addD B.hK) (e_var (i := 3)) (e_lstD (l_cons (e_tupD (l_cons (e_str) (l_cons (e_var (i := 6)) (l_cons (e_int) (l_nil))))) (l_cons (e_tupD (l_cons (e_str) (l_cons (e_var (i := 6)) (l_cons (e_un un_neg s_neg (e_int)) (l_nil))))) (l_cons (e_tupD (l_cons (e_str) (l_cons (e_var (i := 6)) (l_cons (e_bl) (l_nil))))) (l_cons (e_tupD (l_cons (e_str) (l_cons (e_var (i := 6)) (l_cons (e_str) (l_nil))))) (l_nil))))))))
        (s_cons (s_set (i := 3) sc_law_values.nd (e_op o_add (s_addD B.hK) (e_var (i := 3)) (e_lstD (l_cons (e_tupD (l_cons (e_str) (l_cons (e_callTy (k_lst) (s_lstD B.hK) rfl B.z_list (by decide +kernel) (l_cons (e_var (i := 6)) (l_nil))) (l_cons (e_int) (l_nil))))) (l_nil)))))
        (s_cons (s_set (i := 3) sc_law_values.nd (e_op o_add (s_addD B.hK) (e_var (i := 3)) (e_lstD (l_cons (e_tupD (l_cons (e_str) (l_cons (e_tupD (l_nil)) (l_cons (e_int) (l_nil))))) (l_cons (e_tupD (l_cons (e_str) (l_cons (e_op o_add (s_addD B.hK) (e_var (i := 6)) (e_tupD (l_cons (e_var (i := 7)) (l_nil)))) (l_cons (e_int) (l_nil))))) (l_cons (e_tupD (l_cons (e_str) (l_cons (e_rev B.hK (e_var (i := 6))) (l_cons (e_int) (l_nil))))) (l_nil)))))))
        (s_cons (s_set (i := 3) sc_law_values.nd (e_op o_add (s_addD B.hK) (e_var (i := 3)) (e_lstD (l_cons (e_tupD (l_cons (e_str) (l_cons (e_var (i := 7)) (l_cons (e_int) (l_nil))))) (l_cons (e_tupD (l_cons (e_str) (l_cons (e_tupD (l_cons (e_non) (l_nil))) (l_cons (e_int) (l_nil))))) (l_nil))))))
        (s_cons (s_set (i := 3) sc_law_values.nd (e_op o_add (s_addD B.hK) (e_var (i := 3)) (e_lstD (l_cons (e_tupD (l_cons (e_str) (l_cons (e_var (i := 6)) (l_cons (e_int) (l_nil))))) (l_cons (e_tupD (l_cons (e_str) (l_cons (e_tupD (l_cons (e_str) (l_nil))) (l_cons (e_int) (l_nil))))) (l_cons (e_tupD (l_cons (e_str) (l_cons (e_var (i := 6)) (l_cons (e_int) (l_nil))))) (l_nil)))))))
        (s_cons (s_set (i := 3) sc_law_values.nd (e_op o_add (s_addD B.hK) (e_var (i := 3)) (e_lstD (l_cons (e_tupD (l_cons (e_str) (l_cons (e_var (i := 6)) (l_cons (e_int) (l_nil))))) (l_cons (e_tupD (l_cons (e_lstD (l_nil)) (l_cons (e_var (i := 6)) (l_cons (e_int) (l_nil))))) (l_nil))))))
        (s_cons (s_set (i := 3) sc_law_values.nd (e_op o_add (s_addD B.hK) (e_var (i := 3)) (e_lstD (l_cons (e_tupD (l_cons (e_str) (l_cons (e_tupD (l_cons (e_str) (l_cons (e_var (i := 7)) (l_cons (e_ix (o_ix B.hK) s_ixD (e_var (i := 1)) (e_un un_neg s_neg (e_int))) (l_nil))))) (l_cons (e_tupD (l_cons (e_str) (l_cons (e_var (i := 6)) (l_cons (e_int) (l_nil))))) (l_nil))))) (l_nil)))))
        (s_cons (s_set (i := 3) sc_law_values.nd (e_op o_add (s_addD B.hK) (e_var (i := 3)) (e_lstD (l_cons (e_tupD (l_cons (e_str) (l_cons (e_tupD (l_cons (e_str) (l_cons (e_ix (o_ix B.hK) s_ixD (e_var (i := 1)) (e_un un_neg s_neg (e_int))) (l_cons (e_var (i := 7)) (l_nil))))) (l_cons (e_tupD (l_cons (e_str) (l_cons (e_var (i := 6)) (l_cons (e_int) (l_nil))))) (l_nil))))) (l_nil)))))
        (s_cons (s_set (i := 3) sc_law_values.nd (e_op o_add (s_addD B.hK) (e_var (i := 3)) (e_lstD (l_cons (e_tupD (l_cons (e_str) (l_cons (e_tupD (l_cons (e_str) (l_cons (e_var (i := 7)) (l_cons (e_ix (o_ix B.hK) s_ixD (e_var (i := 1)) (e_un un_neg s_neg (e_int))) (l_nil))))) (l_cons (e_tupD (l_cons (e_str) (l_cons (e_tupD (l_cons (e_str) (l_cons (e_var (i := 7)) (l_cons (e_ix (o_ix B.hK) s_ixD (e_var (i := 1)) (e_un un_neg s_neg (e_int))) (l_nil))))) (l_cons (e_tupD (l_cons (e_str) (l_cons (e_var (i := 6)) (l_cons (e_int) (l_nil))))) (l_nil))))) (l_nil))))) (l_nil)))))
        (s_cons (s_set (i := 3) sc_law_values.nd (e_op o_add (s_addD B.hK) (e_var (i := 3)) (e_lstD (l_cons (e_tupD (l_cons (e_str) (l_cons (e_tupD (l_cons (e_lstD (l_cons (e_var (i := 7)) (l_nil))) (l_nil))) (l_cons (e_int) (l_nil))))) (l_nil)))))
        (s_cons (s_set (i := 4) sc_law_values.nd (e_tupD (l_cons (e_str) (l_cons (e_tupD (l_cons (e_str) (l_cons (e_var (i := 7)) (l_cons (e_ix (o_ix B.hK) s_ixD (e_var (i := 1)) (e_un un_neg s_neg (e_int))) (l_nil))))) (l_cons (e_call ok_law_pick (hr.mono (by decide)) rfl g_law_pick k_law_pick b_law_pick tk (l_cons (e_var (i := 0)) (l_cons (e_var (i := 3)) (l_nil))) (lC_len (lC_len (lN_len)))) (l_nil))))))
        (s_cons (s_set (i := 3) sc_law_values.nd (e_op o_add (s_addD B.hK) (e_var (i := 3)) (e_lstD (l_cons (e_var (i := 4)) (l_cons (e_tupD (l_cons (e_str) (l_cons (e_tupD (l_cons (e_str) (l_cons (e_var (i := 7)) (l_cons (e_ix (o_ix B.hK) s_ixD (e_var (i := 1)) (e_un un_neg s_neg (e_int))) (l_nil))))) (l_cons (e_non) (l_nil))))) (l_nil))))))
        (s_cons (s_set (i := 3) sc_law_values.nd (e_op o_add (s_addD B.hK) (e_var (i := 3)) (e_lstD (l_cons (e_tupD (l_cons (e_str) (l_cons (e_tupD (l_cons (e_str) (l_cons (e_var (i := 7)) (l_cons (e_ix (o_ix B.hK) s_ixD (e_var (i := 1)) (e_un un_neg s_neg (e_int))) (l_nil))))) (l_cons (e_tupD (l_cons (e_str) (l_cons (e_var (i := 6)) (l_cons (e_int) (l_nil))))) (l_nil))))) (l_nil)))))
        (s_cons (s_set (i := 5) sc_law_values.nd (e_op o_add (s_addD B.hK) (e_lstD (l_cons (e_var (i := 4)) (l_nil))) (e_lcF (own := [("turn", 8)]) rfl sc_law_values.nd (wi_range1 rfl B.z_range (l_cons (e_int) (l_nil))) (blkOk_by (N := N_law_values) (sc := defScope st_law_values) (by decide +kernel)) (fun _ _ _ _ _ => g_name (i := 8) sc_law_values.nd) (fun _ _ _ _ _ => b_yes) (fun _ _ _ _ _ => e_call ok_law_pick (hr.mono (by decide)) rfl g_law_pick k_law_pick b_law_pick (takes0) (l_cons (e_var (i := 0)) (l_cons (e_var (i := 3)) (l_nil))) (lC_len (lC_len (lN_len)))) (by decide))))
        (s_one (s_ret (e_op o_add (s_addD B.hK) (e_var (i := 5)) (e_lstD (l_cons (e_var (i := 2)) (l_cons (e_tupD (l_cons (e_str) (l_cons (e_var (i := 6)) (l_cons (e_int) (l_nil))))) (l_cons (e_tupD (l_cons (e_str) (l_cons (e_var (i := 6)) (l_cons (e_int) (l_nil))))) (l_nil))))))))))))))))))))))))
theorem ok_law_within (B : Fx P w K mg base g) {f : Addr} {fd : FuncData} (F : Fun K "_law_within" "_law_within" st_law_within f fd) : FnOk P w K mg base (L2.CX P w) 1 f fd ["value", "low", "high"] (spM g 3 (d_law_within g.ns)) :=
  fn_okP B.hx (k := 0) F sc_law_within fun cdv A outer s H E hr hu hp tk =>
      s_one (s_ret (e_and (e_isi (T := "int") B.hK rfl B.z_isinstance rfl B.z_int (by decide +kernel) (e_var (i := 0))) (e_and (e_not (e_isi (T := "bool") B.hK rfl B.z_isinstance rfl B.z_bool (by decide +kernel) (e_var (i := 0)))) (e_one (e_chain op_le s_le op_le s_le (e_var (i := 1)) (e_var (i := 0)) (e_var (i := 2)))))))
theorem ok_law_facts (B : Fx P w K mg base g) {f : Addr} {fd : FuncData} (F : Fun K "_law_facts" "_law_facts" st_law_facts f fd) : FnOk P w K mg base (L2.CX P w) 1 f fd ["steps"] (spM g 1 (d_law_facts g.ns)) :=
  fn_okP B.hx (k := 0) F sc_law_facts fun cdv A outer s H E hr hu hp tk =>
      s_cons (s_set (i := 1) sc_law_facts.nd (e_lstD (l_nil)))
        (s_cons (s_forF hp rfl (wi_range1 rfl B.z_range (l_cons (e_callB (k_len B.hK) s_lenD rfl B.z_len (by decide +kernel) (l_cons (e_var (i := 0)) (l_nil))) (l_nil))) (g_name (i := 2) sc_law_facts.nd) (s_one (s_forF hp rfl (wi_seq B.hK (e_sliceD B.hK (e_var (i := 0)) (o_some (e_op o_add (s_addD B.hK) (e_var (i := 2)) (e_int))) (o_none))) (g_name (i := 3) sc_law_facts.nd) (s_one (s_set (i := 1) sc_law_facts.nd (e_op o_add (s_addD B.hK) (e_var (i := 1)) (e_lcF (own := [("word", 4)]) rfl sc_law_facts.nd (wi_seq B.hK (e_tupD (l_cons (e_str) (l_cons (e_str) (l_cons (e_str) (l_cons (e_str) (l_nil))))))) (blkOk_by (N := N_law_facts) (sc := defScope st_law_facts) (by decide +kernel)) (fun _ _ _ _ _ => g_name (i := 4) sc_law_facts.nd) (fun _ _ _ _ _ => b_yes) (fun _ _ _ _ _ => e_tupD (l_cons (e_var (i := 4)) (l_cons (e_ix (o_ix B.hK) s_ixD (e_var (i := 0)) (e_var (i := 2))) (l_cons (e_var (i := 3)) (l_nil))))) (by decide))))))))
        (s_one (s_ret (e_callB ((cr_sortD hu)) (s_sorted B.hK) rfl B.z_sorted (by decide +kernel) (l_cons (e_var (i := 1)) (l_nil))))))
theorem okr_law_is (B : Fx P w K mg base g) {f : Addr} {fd : FuncData} (F : Fun K "_law_is" "_law_is" st_law_is f fd) {f_law_within : Addr} {fd_law_within : FuncData} (ok_law_within : FnOk P w K mg base (L2.CX P w) 1 f_law_within fd_law_within ["value", "low", "high"] (spM g 3 (d_law_within g.ns))) (b_law_within : Binds K fd_law_within ["value", "low", "high"] []) (g_law_within : mg "_law_within" = some (.ref f_law_within)) (k_law_within : PySem.W.keepIn K (.ref f_law_within) = true) {f_law_facts : Addr} {fd_law_facts : FuncData} (ok_law_facts : FnOk P w K mg base (L2.CX P w) 1 f_law_facts fd_law_facts ["steps"] (spM g 1 (d_law_facts g.ns))) (b_law_facts : Binds K fd_law_facts ["steps"] []) (g_law_facts : mg "_law_facts" = some (.ref f_law_facts)) (k_law_facts : PySem.W.keepIn K (.ref f_law_facts) = true) (rec_b : Binds K fd ["steps", "value", "deep"] []) (rec_g : mg "_law_is" = some (.ref f)) (rec_k : PySem.W.keepIn K (.ref f) = true) (n : Nat) : FnOk P w K mg base (L2.CX P w) (1 + n) f fd ["steps", "value", "deep"] (spM g 3 (runP (r_law_is g.ns n))) := by
  induction n with
  | zero => exact fn_no (ps := ["steps", "value", "deep"])
  | succ n rec_ok =>
    exact fn_okP B.hx (k := 1 + n) F sc_law_is fun cdv A outer s H E hr hu hp tk =>
      s_cons (s_if (PW.pt (w_or (t_not (t_truth B.hK (e_isi (T := "tuple") B.hK rfl B.z_isinstance rfl B.z_tuple (by decide +kernel) (e_var (i := 1))))) (w_or (t_cmp (op_neD (lt64 hu)) (s_ne B.hK) (e_callB (k_len B.hK) s_lenD rfl B.z_len (by decide +kernel) (l_cons (e_var (i := 1)) (l_nil))) (e_int)) (w_or1 (t_not (t_truth B.hK (e_isi (T := "str") B.hK rfl B.z_isinstance rfl B.z_str (by decide +kernel) (e_ix (o_ix B.hK) s_ixD (e_var (i := 1)) (e_int))))))))) (s_one (s_ret (e_bl))) (s_nil))
        (s_cons (s_if (t_cmp (o_in hu) (s_in B.hK) (e_ix (o_ix B.hK) s_ixD (e_var (i := 1)) (e_int)) (e_tupD (l_cons (e_str) (l_cons (e_str) (l_cons (e_str) (l_cons (e_str) (l_nil))))))) (s_one (s_ret (e_and (e_isi (T := "str") B.hK rfl B.z_isinstance rfl B.z_str (by decide +kernel) (e_ix (o_ix B.hK) s_ixD (e_var (i := 1)) (e_int))) (e_and (e_isi (T := "str") B.hK rfl B.z_isinstance rfl B.z_str (by decide +kernel) (e_ix (o_ix B.hK) s_ixD (e_var (i := 1)) (e_int))) (e_one (e_cmp (o_in hu) (s_in B.hK) (e_var (i := 1)) (e_call ok_law_facts (hr.mono (by omega)) rfl g_law_facts k_law_facts b_law_facts tk (l_cons (e_var (i := 0)) (l_nil)) (lC_len (lN_len))))))))) (s_nil))
        (s_cons (s_if (t_cmp (op_eqD (lt64 hu)) (s_eq B.hK) (e_ix (o_ix B.hK) s_ixD (e_var (i := 1)) (e_int)) (e_str)) (s_cons (s_set (i := 3) sc_law_is.nd (e_ix (o_ix B.hK) s_ixD (e_var (i := 1)) (e_int)))
        (s_cons (s_if (PW.pt (w_or (t_not (t_truth B.hK (e_isi (T := "tuple") B.hK rfl B.z_isinstance rfl B.z_tuple (by decide +kernel) (e_var (i := 3))))) (w_or1 (t_cmp (op_neD (lt64 hu)) (s_ne B.hK) (e_lcF (own := [("one", 4)]) rfl sc_law_is.nd (wi_seq B.hK (e_var (i := 3))) (blkOk_by (N := N_law_is) (sc := defScope st_law_is) (by decide +kernel)) (fun _ _ _ _ _ => g_name (i := 4) sc_law_is.nd) (fun _ _ _ _ _ => b_one (t_not (t_truth B.hK (e_isi (T := "str") B.hK rfl B.z_isinstance rfl B.z_str (by decide +kernel) (e_var (i := 4)))))) (fun _ _ _ _ _ => e_var (i := 4)) (by decide)) (e_lstD (l_nil)))))) (s_one (s_ret (e_bl))) (s_nil))
        (s_one (s_ret (e_and (e_var (i := 2)) (e_and (e_cmp (o_in hu) (s_in B.hK) (e_var (i := 3)) (e_call ok_law_facts (hr.mono (by omega)) rfl g_law_facts k_law_facts b_law_facts tk (l_cons (e_var (i := 0)) (l_nil)) (lC_len (lN_len)))) (e_one (e_call rec_ok (hr.mono (by omega)) rfl rec_g rec_k rec_b tk (l_cons (e_var (i := 0)) (l_cons (e_ix (o_ix B.hK) s_ixD (e_var (i := 1)) (e_int)) (l_cons (e_bl) (l_nil)))) (lC_len (lC_len (lC_len (lN_len)))))))))))) (s_nil))
        (s_cons (s_if (PW.pt (w_or (t_cmp (o_notin hu) (s_notin B.hK) (e_ix (o_ix B.hK) s_ixD (e_var (i := 1)) (e_int)) (e_tupD (l_cons (e_str) (l_cons (e_str) (l_cons (e_str) (l_cons (e_str) (l_cons (e_str) (l_nil)))))))) (w_or1 (t_not (t_truth B.hK (e_isi (T := "tuple") B.hK rfl B.z_isinstance rfl B.z_tuple (by decide +kernel) (e_ix (o_ix B.hK) s_ixD (e_var (i := 1)) (e_int)))))))) (s_one (s_ret (e_bl))) (s_nil))
        (s_cons (s_if (PW.pt (w_or (t_cmp (op_neD (lt64 hu)) (s_ne B.hK) (e_lcF (own := [("one", 4)]) rfl sc_law_is.nd (wi_seq B.hK (e_ix (o_ix B.hK) s_ixD (e_var (i := 1)) (e_int))) (blkOk_by (N := N_law_is) (sc := defScope st_law_is) (by decide +kernel)) (fun _ _ _ _ _ => g_name (i := 4) sc_law_is.nd) (fun _ _ _ _ _ => b_one (t_not (t_truth B.hK (e_isi (T := "str") B.hK rfl B.z_isinstance rfl B.z_str (by decide +kernel) (e_var (i := 4)))))) (fun _ _ _ _ _ => e_var (i := 4)) (by decide)) (e_lstD (l_nil))) (w_or1 (t_cmp (op_eqD (lt64 hu)) (s_eq B.hK) (e_ix (o_ix B.hK) s_ixD (e_var (i := 1)) (e_int)) (e_tupD (l_nil)))))) (s_one (s_ret (e_bl))) (s_nil))
        (s_one (s_ret (e_and (e_cmp (op_eqD (lt64 hu)) (s_eq B.hK) (e_ix (o_ix B.hK) s_ixD (e_var (i := 1)) (e_int)) (e_callTy (call_tupX) (s_tupD B.hK) rfl B.z_tuple (by decide +kernel) (l_cons (e_lcF (own := [("step", 5)]) rfl sc_law_is.nd (wi_seq B.hK (e_var (i := 0))) (blkOk_by (N := N_law_is) (sc := defScope st_law_is) (by decide +kernel)) (fun _ _ _ _ _ => g_name (i := 5) sc_law_is.nd) (fun _ _ _ _ _ => b_one (t_cmp (o_in hu) (s_in B.hK) (e_var (i := 5)) (e_ix (o_ix B.hK) s_ixD (e_var (i := 1)) (e_int)))) (fun _ _ _ _ _ => e_var (i := 5)) (by decide)) (l_nil)))) (e_one (e_call ok_law_within (hr.mono (by omega)) rfl g_law_within k_law_within b_law_within tk (l_cons (e_ix (o_ix B.hK) s_ixD (e_var (i := 1)) (e_int)) (l_cons (e_int) (l_cons (e_int) (l_nil)))) (lC_len (lC_len (lC_len (lN_len)))))))))))))
theorem ok_law_is (B : Fx P w K mg base g) {f : Addr} {fd : FuncData} (F : Fun K "_law_is" "_law_is" st_law_is f fd) {f_law_within : Addr} {fd_law_within : FuncData} (ok_law_within : FnOk P w K mg base (L2.CX P w) 1 f_law_within fd_law_within ["value", "low", "high"] (spM g 3 (d_law_within g.ns))) (b_law_within : Binds K fd_law_within ["value", "low", "high"] []) (g_law_within : mg "_law_within" = some (.ref f_law_within)) (k_law_within : PySem.W.keepIn K (.ref f_law_within) = true) {f_law_facts : Addr} {fd_law_facts : FuncData} (ok_law_facts : FnOk P w K mg base (L2.CX P w) 1 f_law_facts fd_law_facts ["steps"] (spM g 1 (d_law_facts g.ns))) (b_law_facts : Binds K fd_law_facts ["steps"] []) (g_law_facts : mg "_law_facts" = some (.ref f_law_facts)) (k_law_facts : PySem.W.keepIn K (.ref f_law_facts) = true) (rec_b : Binds K fd ["steps", "value", "deep"] []) (rec_g : mg "_law_is" = some (.ref f)) (rec_k : PySem.W.keepIn K (.ref f) = true) : FnOk P w K mg base (L2.CX P w) 3 f fd ["steps", "value", "deep"] (spM g 3 (d_law_is g.ns)) := okr_law_is B F ok_law_within b_law_within g_law_within k_law_within ok_law_facts b_law_facts g_law_facts k_law_facts rec_b rec_g rec_k 2
theorem ok_law_some_steps (B : Fx P w K mg base g) {f : Addr} {fd : FuncData} (F : Fun K "_law_some_steps" "_law_some_steps" st_law_some_steps f fd) {f_law_pick : Addr} {fd_law_pick : FuncData} (ok_law_pick : FnOk P w K mg base (L2.CX P w) 2 f_law_pick fd_law_pick ["feed", "some"] (spM g 2 (d_law_pick g.ns))) (b_law_pick : Binds K fd_law_pick ["feed", "some"] []) (g_law_pick : mg "_law_pick" = some (.ref f_law_pick)) (k_law_pick : PySem.W.keepIn K (.ref f_law_pick) = true) {f_law_take : Addr} {fd_law_take : FuncData} (ok_law_take : FnOk P w K mg base (L2.CX P w) 1 f_law_take fd_law_take ["feed", "bound"] (spM g 2 (d_law_take g.ns))) (b_law_take : Binds K fd_law_take ["feed", "bound"] []) (g_law_take : mg "_law_take" = some (.ref f_law_take)) (k_law_take : PySem.W.keepIn K (.ref f_law_take) = true) : FnOk P w K mg base (L2.CX P w) 3 f fd ["feed", "steps"] (spM g 2 (d_law_some_steps g.ns)) :=
  fn_okM B.hx (k := 2) F sc_law_some_steps fun cdv A outer s H E hr hu hp tk =>
      s_cons (s_set (i := 2) sc_law_some_steps.nd (e_callTy (call_tupX) (s_tupD B.hK) rfl B.z_tuple (by decide +kernel) (l_cons (e_lcF (own := [("step", 3)]) rfl sc_law_some_steps.nd (wi_seq B.hK (e_var (i := 1))) (blkOk_by (N := N_law_some_steps) (sc := defScope st_law_some_steps) (by decide +kernel)) (fun _ _ _ _ _ => g_name (i := 3) sc_law_some_steps.nd) (fun _ _ _ _ _ => b_one (t_cmp op_gt s_gt (e_call ok_law_take (hr.mono (by decide)) rfl g_law_take k_law_take b_law_take (takes0) (l_cons (e_var (i := 0)) (l_cons (e_int) (l_nil))) (lC_len (lC_len (lN_len)))) (e_int))) (fun _ _ _ _ _ => e_var (i := 3)) (by decide)) (l_nil))))
        (s_one (s_ret (e_if (t_cmp (op_neD (lt64 hu)) (s_ne B.hK) (e_var (i := 2)) (e_tupD (l_nil))) (e_var (i := 2)) (e_tupD (l_cons (e_call ok_law_pick (hr.mono (by decide)) rfl g_law_pick k_law_pick b_law_pick tk (l_cons (e_var (i := 0)) (l_cons (e_var (i := 1)) (l_nil))) (lC_len (lC_len (lN_len)))) (l_nil))))))
theorem ok_law_drawn_rule (B : Fx P w K mg base g) {f : Addr} {fd : FuncData} (F : Fun K "_law_drawn_rule" "_law_drawn_rule" st_law_drawn_rule f fd) {f_law_pick : Addr} {fd_law_pick : FuncData} (ok_law_pick : FnOk P w K mg base (L2.CX P w) 2 f_law_pick fd_law_pick ["feed", "some"] (spM g 2 (d_law_pick g.ns))) (b_law_pick : Binds K fd_law_pick ["feed", "some"] []) (g_law_pick : mg "_law_pick" = some (.ref f_law_pick)) (k_law_pick : PySem.W.keepIn K (.ref f_law_pick) = true) {f_law_take : Addr} {fd_law_take : FuncData} (ok_law_take : FnOk P w K mg base (L2.CX P w) 1 f_law_take fd_law_take ["feed", "bound"] (spM g 2 (d_law_take g.ns))) (b_law_take : Binds K fd_law_take ["feed", "bound"] []) (g_law_take : mg "_law_take" = some (.ref f_law_take)) (k_law_take : PySem.W.keepIn K (.ref f_law_take) = true) {f_law_some_steps : Addr} {fd_law_some_steps : FuncData} (ok_law_some_steps : FnOk P w K mg base (L2.CX P w) 3 f_law_some_steps fd_law_some_steps ["feed", "steps"] (spM g 2 (d_law_some_steps g.ns))) (b_law_some_steps : Binds K fd_law_some_steps ["feed", "steps"] []) (g_law_some_steps : mg "_law_some_steps" = some (.ref f_law_some_steps)) (k_law_some_steps : PySem.W.keepIn K (.ref f_law_some_steps) = true) {f_law_facts : Addr} {fd_law_facts : FuncData} (ok_law_facts : FnOk P w K mg base (L2.CX P w) 1 f_law_facts fd_law_facts ["steps"] (spM g 1 (d_law_facts g.ns))) (b_law_facts : Binds K fd_law_facts ["steps"] []) (g_law_facts : mg "_law_facts" = some (.ref f_law_facts)) (k_law_facts : PySem.W.keepIn K (.ref f_law_facts) = true) : FnOk P w K mg base (L2.CX P w) 4 f fd ["feed", "steps"] (spM g 2 (d_law_drawn_rule g.ns)) :=
  fn_okM B.hx (k := 3) F sc_law_drawn_rule fun cdv A outer s H E hr hu hp tk =>
      s_cons (s_par (i := 4) (j := 5) rfl sc_law_drawn_rule.nd (l_cons (e_call ok_law_take (hr.mono (by decide)) rfl g_law_take k_law_take b_law_take tk (l_cons (e_var (i := 0)) (l_cons (e_int) (l_nil))) (lC_len (lC_len (lN_len)))) (l_cons (e_call ok_law_facts (hr.mono (by decide)) rfl g_law_facts k_law_facts b_law_facts tk (l_cons (e_var (i := 1)) (l_nil)) (lC_len (lN_len))) (l_nil))))
        (s_cons (s_if (PW.pt (w_and (t_cmp op_lt s_lt (e_var (i := 4)) (e_int)) (w_and1 (t_cmp (op_neD (lt64 hu)) (s_ne B.hK) (e_var (i := 5)) (e_lstD (l_nil)))))) (s_one (s_ret (e_call ok_law_pick (hr.mono (by decide)) rfl g_law_pick k_law_pick b_law_pick tk (l_cons (e_var (i := 0)) (l_cons (e_var (i := 5)) (l_nil))) (lC_len (lC_len (lN_len)))))) (s_nil))
        (s_cons (s_set (i := 2) sc_law_drawn_rule.nd (e_call ok_law_pick (hr.mono (by decide)) rfl g_law_pick k_law_pick b_law_pick tk (l_cons (e_var (i := 0)) (l_cons (e_lstD (l_cons (e_str) (l_cons (e_str) (l_cons (e_str) (l_cons (e_str) (l_cons (e_str) (l_nil))))))) (l_nil))) (lC_len (lC_len (lN_len)))))
        (s_cons (s_set (i := 3) sc_law_drawn_rule.nd (e_tupD (l_cons (e_var (i := 2)) (l_cons (e_call ok_law_some_steps (hr.mono (by decide)) rfl g_law_some_steps k_law_some_steps b_law_some_steps tk (l_cons (e_var (i := 0)) (l_cons (e_var (i := 1)) (l_nil))) (lC_len (lC_len (lN_len)))) (l_cons (e_call ok_law_pick (hr.mono (by decide)) rfl g_law_pick k_law_pick b_law_pick tk (l_cons (e_var (i := 0)) (l_cons (e_lstD (l_cons (e_int) (l_cons (e_int) (l_cons (e_int) (l_cons (e_int) (l_cons (e_int) (l_cons (e_int) (l_nil)))))))) (l_nil))) (lC_len (lC_len (lN_len)))) (l_nil))))))
        (s_cons (s_if (PW.pt (w_and (t_cmp op_gt s_gt (e_var (i := 4)) (e_int)) (w_and1 (t_cmp (op_neD (lt64 hu)) (s_ne B.hK) (e_var (i := 5)) (e_lstD (l_nil)))))) (s_one (s_ret (e_tupD (l_cons (e_str) (l_cons (e_call ok_law_pick (hr.mono (by decide)) rfl g_law_pick k_law_pick b_law_pick tk (l_cons (e_var (i := 0)) (l_cons (e_var (i := 5)) (l_nil))) (lC_len (lC_len (lN_len)))) (l_cons (e_if (t_cmp (op_eqD (lt64 hu)) (s_eq B.hK) (e_call ok_law_take (hr.mono (by decide)) rfl g_law_take k_law_take b_law_take tk (l_cons (e_var (i := 0)) (l_cons (e_int) (l_nil))) (lC_len (lC_len (lN_len)))) (e_int)) (e_var (i := 3)) (e_call ok_law_pick (hr.mono (by decide)) rfl g_law_pick k_law_pick b_law_pick tk (l_cons (e_var (i := 0)) (l_cons (e_var (i := 5)) (l_nil))) (lC_len (lC_len (lN_len))))) (l_nil))))))) (s_nil))
        (s_one (s_ret (e_var (i := 3))))))))
theorem ok_law_rows (B : Fx P w K mg base g) {f : Addr} {fd : FuncData} (F : Fun K "_law_rows" "_law_rows" st_law_rows f fd) : FnOk P w K mg base (L2.CX P w) 1 f fd ["many"] (spM g 1 (d_law_rows g.ns)) :=
  fn_okP B.hx (k := 0) F sc_law_rows fun cdv A outer s H E hr hu hp tk =>
      s_cons (s_set (i := 1) sc_law_rows.nd (e_lstD (l_cons (e_tupD (l_nil)) (l_nil))))
        (s_cons (s_forF hp rfl (wi_range1 rfl B.z_range (l_cons (e_var (i := 0)) (l_nil))) (g_name (i := 2) sc_law_rows.nd) (s_cons (s_set (i := 3) sc_law_rows.nd (e_lst (l_nil)))
        (s_cons (s_forF hp rfl (wi_seq B.hK (e_var (i := 1))) (g_name (i := 4) sc_law_rows.nd) (s_one (s_forF hp rfl (wi_range1 rfl B.z_range (l_cons (e_op o_add (s_addD B.hK) (e_lenSetE B.hK rfl hu rfl B.z_len rfl B.z_set (e_var (i := 4))) (e_int)) (l_nil))) (g_name (i := 5) sc_law_rows.nd) (s_one (s_expr (e_append (e_var (i := 3)) (l_cons (e_op o_add (s_addD B.hK) (e_var (i := 4)) (e_tupD (l_cons (e_var (i := 5)) (l_nil)))) (l_nil))))))))
        (s_fix (i := 3) (s_one (s_set (i := 1) sc_law_rows.nd (e_var (i := 3))))))))
        (s_one (s_ret (e_var (i := 1)))))
theorem ok_law_patterns (B : Fx P w K mg base g) {f : Addr} {fd : FuncData} (F : Fun K "_law_patterns" "_law_patterns" st_law_patterns f fd) {f_law_rows : Addr} {fd_law_rows : FuncData} (ok_law_rows : FnOk P w K mg base (L2.CX P w) 1 f_law_rows fd_law_rows ["many"] (spM g 1 (d_law_rows g.ns))) (b_law_rows : Binds K fd_law_rows ["many"] []) (g_law_rows : mg "_law_rows" = some (.ref f_law_rows)) (k_law_rows : PySem.W.keepIn K (.ref f_law_rows) = true) : FnOk P w K mg base (L2.CX P w) 2 f fd ["many"] (spM g 1 (d_law_patterns g.ns)) :=
  fn_okP B.hx (k := 1) F sc_law_patterns fun cdv A outer s H E hr hu hp tk =>
      s_cons (s_set (i := 1) sc_law_patterns.nd (e_lst (l_nil)))
        (s_cons (s_forF hp rfl (wi_seq B.hK (e_call ok_law_rows (hr.mono (by decide)) rfl g_law_rows k_law_rows b_law_rows tk (l_cons (e_var (i := 0)) (l_nil)) (lC_len (lN_len)))) (g_name (i := 2) sc_law_patterns.nd) (s_one (s_forF hp rfl (wi_seq B.hK (e_call ok_law_rows (hr.mono (by decide)) rfl g_law_rows k_law_rows b_law_rows tk (l_cons (e_var (i := 0)) (l_nil)) (lC_len (lN_len)))) (g_name (i := 3) sc_law_patterns.nd) (s_one (s_if (t_cmp (op_eqD (lt64 hu)) (s_eq B.hK) (e_lenSetE B.hK rfl hu rfl B.z_len rfl B.z_set (e_lcF (own := [("at", 4)]) rfl sc_law_patterns.nd (wi_range1 rfl B.z_range (l_cons (e_var (i := 0)) (l_nil))) (blkOk_by (N := N_law_patterns) (sc := defScope st_law_patterns) (by decide +kernel)) (fun _ _ _ _ _ => g_name (i := 4) sc_law_patterns.nd) (fun _ _ _ _ _ => b_yes) (fun _ _ _ _ _ => e_tupD (l_cons (e_ix (o_ix B.hK) s_ixD (e_var (i := 2)) (e_var (i := 4))) (l_cons (e_ix (o_ix B.hK) s_ixD (e_var (i := 3)) (e_var (i := 4))) (l_nil)))) (by decide))) (e_lenSetE B.hK rfl hu rfl B.z_len rfl B.z_set (e_var (i := 2)))) (s_one (s_expr (e_append (e_var (i := 1)) (l_cons (e_tupD (l_cons (e_var (i := 2)) (l_cons (e_var (i := 3)) (l_nil)))) (l_nil))))) (s_nil))))))
        (s_fix (i := 1) (s_one (s_ret (e_var (i := 1))))))
theorem ok_law_step_lists (B : Fx P w K mg base g) {f : Addr} {fd : FuncData} (F : Fun K "_law_step_lists" "_law_step_lists" st_law_step_lists f fd) : FnOk P w K mg base (L2.CX P w) 1 f fd [] (spM g 0 (d_law_step_lists g.ns)) :=
  fn_okP B.hx (k := 0) F sc_law_step_lists fun cdv A outer s H E hr hu hp tk =>
      s_cons (s_set (i := 0) sc_law_step_lists.nd (e_lstD (l_cons (e_lstD (l_cons (e_str) (l_cons (e_str) (l_nil)))) (l_cons (e_lstD (l_cons (e_str) (l_cons (e_str) (l_cons (e_str) (l_nil))))) (l_cons (e_lstD (l_cons (e_str) (l_cons (e_str) (l_cons (e_str) (l_cons (e_str) (l_nil)))))) (l_cons (e_lstD (l_cons (e_str) (l_cons (e_str) (l_cons (e_str) (l_cons (e_str) (l_nil)))))) (l_nil)))))))
        (s_one (s_ret (e_op o_add (s_addD B.hK) (e_var (i := 0)) (e_lstD (l_cons (e_lstD (l_cons (e_str) (l_cons (e_str) (l_cons (e_str) (l_nil))))) (l_cons (e_lstD (l_cons (e_str) (l_nil))) (l_nil)))))))
theorem ok_law_feed (B : Fx P w K mg base g) {f : Addr} {fd : FuncData} (F : Fun K "_law_feed" "_law_feed" st_law_feed f fd) : FnOk P w K mg base (L2.CX P w) 1 f fd ["script", "k"] (spM g 2 (d_law_feed g.ns)) :=
  fn_ok2 (k := 0) F sc_law_feed fun cdv A outer s H E hr hu hp tk =>
      s_cons (s_set (i := 2) sc_law_feed.nd (e_if (t_cmp op_lt s_lt (e_var (i := 1)) (e_callB (k_len B.hK) s_lenD rfl B.z_len (by decide +kernel) (l_cons (e_var (i := 0)) (l_nil)))) (e_ix (o_ix B.hK) s_ixD (e_var (i := 0)) (e_var (i := 1))) (e_op o_add (s_addD B.hK) (e_op o_mulF (s_mulF B.hK) (e_int) (e_var (i := 1))) (e_int))))
        (s_cons (s_set (i := 3) sc_law_feed.nd (e_callB ((call_max2 rfl)) s_max2 rfl B.z_max (by decide +kernel) (l_cons (e_int) (l_cons (e_op op_sub s_sub (e_callB (call_abs) s_abs rfl B.z_abs (by decide +kernel) (l_cons (e_var (i := 2)) (l_nil))) (e_op op_pow s_pow (e_int) (e_int))) (l_nil)))))
        (s_cons (s_set (i := 4) sc_law_feed.nd (e_op op_mod s_mod (e_callTy (call_int1) s_int rfl B.z_int (by decide +kernel) (l_cons (e_op o_add (s_addD B.hK) (e_op o_add (s_addD B.hK) (e_op o_mulF (s_mulF B.hK) (e_var (i := 2)) (e_int)) (e_op o_mulF (s_mulF B.hK) (e_int) (e_var (i := 1)))) (e_int)) (l_nil))) (e_int)))
        (s_one (s_ret (e_lst (l_cons (e_var (i := 3)) (l_cons (e_var (i := 4)) (l_nil))))))))
theorem body_law (B : Fx P w K mg base g) {f_law_no_patterns : Addr} {fd_law_no_patterns : FuncData} (ok_law_no_patterns : FnOk P w K mg base (L2.CX P w) 1 f_law_no_patterns fd_law_no_patterns ["many"] (spM g 1 (d_law_no_patterns g.ns))) (b_law_no_patterns : Binds K fd_law_no_patterns ["many"] []) (g_law_no_patterns : mg "_law_no_patterns" = some (.ref f_law_no_patterns)) (k_law_no_patterns : PySem.W.keepIn K (.ref f_law_no_patterns) = true) {f_law_raised : Addr} {fd_law_raised : FuncData} (ok_law_raised : FnOk P w K mg base (L2.CX P w) 7 f_law_raised fd_law_raised ["steps", "rule", "pattern"] (spM g 3 (d_law_raised g.ns))) (b_law_raised : Binds K fd_law_raised ["steps", "rule", "pattern"] []) (g_law_raised : mg "_law_raised" = some (.ref f_law_raised)) (k_law_raised : PySem.W.keepIn K (.ref f_law_raised) = true) {f_p_keeps : Addr} {fd_p_keeps : FuncData} (ok_p_keeps : FnOk P w K mg base (L2.CX P w) 6 f_p_keeps fd_p_keeps ["steps", "rule", "pattern"] (spM g 3 (d_p_keeps g.ns))) (b_p_keeps : Binds K fd_p_keeps ["steps", "rule", "pattern"] []) (g_p_keeps : mg "keeps" = some (.ref f_p_keeps)) (k_p_keeps : PySem.W.keepIn K (.ref f_p_keeps) = true) {f_law_keeps : Addr} {fd_law_keeps : FuncData} (ok_law_keeps : FnOk P w K mg base (L2.CX P w) 3 f_law_keeps fd_law_keeps ["steps", "rule", "pattern"] (spM g 3 (d_law_keeps g.ns))) (b_law_keeps : Binds K fd_law_keeps ["steps", "rule", "pattern"] []) (g_law_keeps : mg "_law_keeps" = some (.ref f_law_keeps)) (k_law_keeps : PySem.W.keepIn K (.ref f_law_keeps) = true) {f_law_pick : Addr} {fd_law_pick : FuncData} (ok_law_pick : FnOk P w K mg base (L2.CX P w) 2 f_law_pick fd_law_pick ["feed", "some"] (spM g 2 (d_law_pick g.ns))) (b_law_pick : Binds K fd_law_pick ["feed", "some"] []) (g_law_pick : mg "_law_pick" = some (.ref f_law_pick)) (k_law_pick : PySem.W.keepIn K (.ref f_law_pick) = true) {f_law_values : Addr} {fd_law_values : FuncData} (ok_law_values : FnOk P w K mg base (L2.CX P w) 3 f_law_values fd_law_values ["feed", "steps", "rule"] (spM g 3 (d_law_values g.ns))) (b_law_values : Binds K fd_law_values ["feed", "steps", "rule"] []) (g_law_values : mg "_law_values" = some (.ref f_law_values)) (k_law_values : PySem.W.keepIn K (.ref f_law_values) = true) {f_law_is : Addr} {fd_law_is : FuncData} (ok_law_is : FnOk P w K mg base (L2.CX P w) 3 f_law_is fd_law_is ["steps", "value", "deep"] (spM g 3 (d_law_is g.ns))) (b_law_is : Binds K fd_law_is ["steps", "value", "deep"] []) (g_law_is : mg "_law_is" = some (.ref f_law_is)) (k_law_is : PySem.W.keepIn K (.ref f_law_is) = true) {f_p_is_rule : Addr} {fd_p_is_rule : FuncData} (ok_p_is_rule : FnOk P w K mg base (L2.CX P w) 4 f_p_is_rule fd_p_is_rule ["steps", "value"] (spM g 2 (d_p_is_rule g.ns))) (b_p_is_rule : Binds K fd_p_is_rule ["steps", "value"] []) (g_p_is_rule : mg "is_rule" = some (.ref f_p_is_rule)) (k_p_is_rule : PySem.W.keepIn K (.ref f_p_is_rule) = true) {f_law_drawn_rule : Addr} {fd_law_drawn_rule : FuncData} (ok_law_drawn_rule : FnOk P w K mg base (L2.CX P w) 4 f_law_drawn_rule fd_law_drawn_rule ["feed", "steps"] (spM g 2 (d_law_drawn_rule g.ns))) (b_law_drawn_rule : Binds K fd_law_drawn_rule ["feed", "steps"] []) (g_law_drawn_rule : mg "_law_drawn_rule" = some (.ref f_law_drawn_rule)) (k_law_drawn_rule : PySem.W.keepIn K (.ref f_law_drawn_rule) = true) {f_law_patterns : Addr} {fd_law_patterns : FuncData} (ok_law_patterns : FnOk P w K mg base (L2.CX P w) 2 f_law_patterns fd_law_patterns ["many"] (spM g 1 (d_law_patterns g.ns))) (b_law_patterns : Binds K fd_law_patterns ["many"] []) (g_law_patterns : mg "_law_patterns" = some (.ref f_law_patterns)) (k_law_patterns : PySem.W.keepIn K (.ref f_law_patterns) = true) {f_law_step_lists : Addr} {fd_law_step_lists : FuncData} (ok_law_step_lists : FnOk P w K mg base (L2.CX P w) 1 f_law_step_lists fd_law_step_lists [] (spM g 0 (d_law_step_lists g.ns))) (b_law_step_lists : Binds K fd_law_step_lists [] []) (g_law_step_lists : mg "_law_step_lists" = some (.ref f_law_step_lists)) (k_law_step_lists : PySem.W.keepIn K (.ref f_law_step_lists) = true) {f_law_feed : Addr} {fd_law_feed : FuncData} (ok_law_feed : FnOk P w K mg base (L2.CX P w) 1 f_law_feed fd_law_feed ["script", "k"] (spM g 2 (d_law_feed g.ns))) (b_law_feed : Binds K fd_law_feed ["script", "k"] []) (g_law_feed : mg "_law_feed" = some (.ref f_law_feed)) (k_law_feed : PySem.W.keepIn K (.ref f_law_feed) = true) {f : Addr} : LawBody P w K mg base g "law" st_p_law N_p_law f 7 (m_p_law g.ns) :=
  fun cdv A outer s H E hgd hr hu hp tk =>
      s_cons (s_forF hp rfl (wi_range1 rfl B.z_range (l_cons (e_callB ((call_max2 rfl)) s_max2 rfl B.z_max (by decide +kernel) (l_cons (e_int) (l_cons (e_callB ((call_min2 rfl)) s_min2 rfl B.z_min (by decide +kernel) (l_cons (e_int) (l_cons (e_callB (k_len B.hK) s_lenD rfl B.z_len (by decide +kernel) (l_cons (e_var (i := 0)) (l_nil))) (l_nil)))) (l_nil)))) (l_nil))) (g_name (i := 1) sc_p_law.nd) (s_cons (s_set (i := 2) sc_p_law.nd (e_call ok_law_feed (hr.mono (by decide)) rfl g_law_feed k_law_feed b_law_feed tk (l_cons (e_var (i := 0)) (l_cons (e_var (i := 1)) (l_nil))) (lC_len (lC_len (lN_len)))))
        (s_cons (s_set (i := 3) sc_p_law.nd (e_call ok_law_pick (hr.mono (by decide)) rfl g_law_pick k_law_pick b_law_pick tk (l_cons (e_var (i := 2)) (l_cons (e_call0 ok_law_step_lists (hr.mono (by decide)) rfl g_law_step_lists k_law_step_lists b_law_step_lists ) (l_nil))) (lC_len (lC_len (lN_len)))))
        (s_cons (s_set (i := 4) sc_p_law.nd (e_call ok_law_patterns (hr.mono (by decide)) rfl g_law_patterns k_law_patterns b_law_patterns tk (l_cons (e_callB (k_len B.hK) s_lenD rfl B.z_len (by decide +kernel) (l_cons (e_var (i := 3)) (l_nil))) (l_nil)) (lC_len (lN_len))))
        (s_one (s_forF hp rfl (wi_range1 rfl B.z_range (l_cons (e_int) (l_nil))) (g_name (i := 5) sc_p_law.nd) (s_cons (s_set (i := 6) sc_p_law.nd (e_call ok_law_drawn_rule (hr.mono (by decide)) rfl g_law_drawn_rule k_law_drawn_rule b_law_drawn_rule tk (l_cons (e_var (i := 2)) (l_cons (e_var (i := 3)) (l_nil))) (lC_len (lC_len (lN_len)))))
        (s_cons (s_forF hp rfl (wi_seq B.hK (e_call ok_law_values (hr.mono (by decide)) rfl g_law_values k_law_values b_law_values tk (l_cons (e_var (i := 2)) (l_cons (e_var (i := 3)) (l_cons (e_var (i := 6)) (l_nil)))) (lC_len (lC_len (lC_len (lN_len)))))) (g_name (i := 7) sc_p_law.nd) (s_cons (s_par3 (i := 12) (j := 13) (l := 14) rfl sc_p_law.nd (l_cons (e_callB (call_reprD hgd hu) (s_repr B.hK) rfl B.z_repr (by decide +kernel) (l_cons (e_var (i := 7)) (l_nil))) (l_cons (e_call ok_p_is_rule (hr.mono (by decide)) rfl g_p_is_rule k_p_is_rule b_p_is_rule tk (l_cons (e_var (i := 3)) (l_cons (e_var (i := 7)) (l_nil))) (lC_len (lC_len (lN_len)))) (l_cons (e_call ok_law_is (hr.mono (by decide)) rfl g_law_is k_law_is b_law_is tk (l_cons (e_var (i := 3)) (l_cons (e_var (i := 7)) (l_cons (e_bl) (l_nil)))) (lC_len (lC_len (lC_len (lN_len))))) (l_nil)))))
        (s_cons (s_if (PW.pt (w_or (t_not (t_truth B.hK (e_isi (T := "bool") B.hK rfl B.z_isinstance rfl B.z_bool (by decide +kernel) (e_var (i := 13))))) (w_or (t_cmp (op_neD (lt64 hu)) (s_ne B.hK) (e_var (i := 13)) (e_var (i := 14))) (w_or1 (t_cmp (op_neD (lt64 hu)) (s_ne B.hK) (e_callB (call_reprD hgd hu) (s_repr B.hK) rfl B.z_repr (by decide +kernel) (l_cons (e_var (i := 7)) (l_nil))) (e_var (i := 12))))))) (s_one (s_ret (e_bl))) (s_nil))
        (s_one (s_if (PW.pt (w_and (t_not (t_truth B.hK (e_var (i := 14)))) (w_and1 (t_cmp (op_neD (lt64 hu)) (s_ne B.hK) (e_call ok_law_raised (hr.mono (by decide)) rfl g_law_raised k_law_raised b_law_raised tk (l_cons (e_var (i := 3)) (l_cons (e_var (i := 7)) (l_cons (e_non) (l_nil)))) (lC_len (lC_len (lC_len (lN_len))))) (e_tupD (l_cons (e_str) (l_cons (e_int) (l_nil)))))))) (s_one (s_ret (e_bl))) (s_nil))))))
        (s_cons (s_forF hp rfl (wi_range1 rfl B.z_range (l_cons (e_int) (l_nil))) (g_name (i := 8) sc_p_law.nd) (s_cons (s_set (i := 11) sc_p_law.nd (e_call ok_law_pick (hr.mono (by decide)) rfl g_law_pick k_law_pick b_law_pick tk (l_cons (e_var (i := 2)) (l_cons (e_var (i := 4)) (l_nil))) (lC_len (lC_len (lN_len)))))
        (s_one (s_if (t_cmp (op_neD (lt64 hu)) (s_ne B.hK) (e_callB (call_reprD hgd hu) (s_repr B.hK) rfl B.z_repr (by decide +kernel) (l_cons (e_call ok_p_keeps (hr.mono (by decide)) rfl g_p_keeps k_p_keeps b_p_keeps tk (l_cons (e_callTy (k_lst) (s_lstD B.hK) rfl B.z_list (by decide +kernel) (l_cons (e_var (i := 3)) (l_nil))) (l_cons (e_var (i := 6)) (l_cons (e_var (i := 11)) (l_nil)))) (lC_len (lC_len (lC_len (lN_len))))) (l_nil))) (e_callB (call_reprD hgd hu) (s_repr B.hK) rfl B.z_repr (by decide +kernel) (l_cons (e_call ok_law_keeps (hr.mono (by decide)) rfl g_law_keeps k_law_keeps b_law_keeps tk (l_cons (e_var (i := 3)) (l_cons (e_var (i := 6)) (l_cons (e_var (i := 11)) (l_nil)))) (lC_len (lC_len (lC_len (lN_len))))) (l_nil)))) (s_one (s_ret (e_bl))) (s_nil)))))
        (s_cons (s_set (i := 9) sc_p_law.nd (e_lstD (l_cons (e_non) (l_cons (e_tupD (l_nil)) (l_cons (e_tupD (l_cons (e_ix (o_ix B.hK) s_ixD (e_ix (o_ix B.hK) s_ixD (e_var (i := 4)) (e_int)) (e_int)) (l_nil))) (l_cons (e_callTy (k_lst) (s_lstD B.hK) rfl B.z_list (by decide +kernel) (l_cons (e_ix (o_ix B.hK) s_ixD (e_var (i := 4)) (e_int)) (l_nil))) (l_nil)))))))
        (s_cons (s_set (i := 9) sc_p_law.nd (e_op o_add (s_addD B.hK) (e_var (i := 9)) (e_lstD (l_cons (e_tupD (l_cons (e_op o_add (s_addD B.hK) (e_ix (o_ix B.hK) s_ixD (e_ix (o_ix B.hK) s_ixD (e_var (i := 4)) (e_int)) (e_int)) (e_tupD (l_cons (e_int) (l_nil)))) (l_cons (e_op o_add (s_addD B.hK) (e_ix (o_ix B.hK) s_ixD (e_ix (o_ix B.hK) s_ixD (e_var (i := 4)) (e_int)) (e_int)) (e_tupD (l_cons (e_int) (l_nil)))) (l_nil)))) (l_nil)))))
        (s_one (s_forF hp rfl (wi_seq B.hK (e_op o_add (s_addD B.hK) (e_var (i := 9)) (e_call ok_law_no_patterns (hr.mono (by decide)) rfl g_law_no_patterns k_law_no_patterns b_law_no_patterns tk (l_cons (e_callB (k_len B.hK) s_lenD rfl B.z_len (by decide +kernel) (l_cons (e_var (i := 3)) (l_nil))) (l_nil)) (lC_len (lN_len))))) (g_name (i := 10) sc_p_law.nd) (s_one (s_if (t_cmp (op_neD (lt64 hu)) (s_ne B.hK) (e_call ok_law_raised (hr.mono (by decide)) rfl g_law_raised k_law_raised b_law_raised tk (l_cons (e_var (i := 3)) (l_cons (e_var (i := 6)) (l_cons (e_var (i := 10)) (l_nil)))) (lC_len (lC_len (lC_len (lN_len))))) (e_str)) (s_one (s_ret (e_bl))) (s_nil))))))))))))))))
        (s_one (s_ret (e_bl)))
end
theorem all_mk {l : PySem.W.OpenLaw} {w : World} {K : PySem.W.Frag} {h : Heap} {mg : Str → Option Value} {fa : Addr} (X : K.In h) (G : h.Ns mainGlobals mg) (hfa : mg "law" = some (.ref fa))
    {A0 : Addr} (ca0 : PySem.W.nsIn K mainGlobals "HandError" = some (some (.ref A0)))
    {A1 : Addr} (ca1 : PySem.W.nsIn K mainGlobals "NoList" = some (some (.ref A1)))
    {A2 : Addr} (ca2 : PySem.W.nsIn K mainGlobals "BadPattern" = some (some (.ref A2)))
    {A3 : Addr} (ca3 : PySem.W.nsIn K mainGlobals "BadRule" = some (some (.ref A3)))
    (kx1 : PySem.W.keepIn K (.ref A1) = true)
    (bp1 : PySem.W.subIn K (.ref A1) (.type "BaseException") = some true)
    (tp1 : PySem.W.typeIn K (.ref A1) = some (.type "type"))
    (xp1 : PySem.W.excIn K A1 veB "ValueError.__new__" = true)
    (kx2 : PySem.W.keepIn K (.ref A2) = true)
    (bp2 : PySem.W.subIn K (.ref A2) (.type "BaseException") = some true)
    (tp2 : PySem.W.typeIn K (.ref A2) = some (.type "type"))
    (xp2 : PySem.W.excIn K A2 veB "ValueError.__new__" = true)
    (kx3 : PySem.W.keepIn K (.ref A3) = true)
    (bp3 : PySem.W.subIn K (.ref A3) (.type "BaseException") = some true)
    (tp3 : PySem.W.typeIn K (.ref A3) = some (.type "type"))
    {q1_3 q2_3 : Str} {q3_3 : Addr} {q4_3 q5_3 : List Value} {q6_3 : List Str} {q7_3 : List Value} {q8_3 : Bool} {q9_3 : Option Bool} {q10_3 : Option Addr} {q11_3 q12_3 q13_3 q14_3 q15_3 : Option Value} (lk3 : K.lookup A3 = some (excClassObj q1_3 q2_3 A3 q3_3 q4_3 q5_3 true q6_3 q7_3 q8_3 q9_3 q10_3 q11_3 q12_3 q13_3 q14_3 q15_3 "ValueError.__new__")) (rf3 : PySem.HandSPX.refsVE q5_3 = true)
    (sa3 : PySem.W.findIn K (.ref A3) "__setattr__" = some (some (.builtin "object.__setattr__"))) {I3 : Addr} (in3 : PySem.W.findIn K (.ref A3) "__init__" = some (some (.ref I3))) (ti3 : PySem.W.typeIn K (.ref I3) = some (.type "function")) (nf3 : PySem.W.findIn K (.ref A3) "number" = some none)
    {iod3 ian3 : Option Addr} {isl3 : Array (Option Value)} {ioc3 ikV3 idc3 ipm3 icd3 ict3 : Value} (il3 : K.lookup I3 = some ⟨ioc3, iod3, .func (PySem.W.fnOf "__init__" "BadRule.__init__" (defArgs (clsS (topS 4))) (defBody (clsS (topS 4))) (defScope (clsS (topS 4))) .none ikV3 idc3 ipm3 ian3 icd3 ict3), isl3⟩) (ic3 : PySem.W.codeIn K icd3 "BadRule.__init__" = true) (ik3 : PySem.W.keepIn K (.ref I3) = true)
    {f0 : Addr} {od0 an0 : Option Addr} {sl0 : Array (Option Value)} {oc0 kV0 dc0 pm0 cd0 ct0 : Value}
    (a0 : PySem.W.nsIn K mainGlobals "_law_no_patterns" = some (some (.ref f0)))
    (l0 : K.lookup f0 = some ⟨oc0, od0, .func (PySem.W.fnOf "_law_no_patterns" "_law_no_patterns" (defArgs st_law_no_patterns) (defBody st_law_no_patterns) (defScope st_law_no_patterns) .none kV0 dc0 pm0 an0 cd0 ct0), sl0⟩)
    (c0 : PySem.W.codeIn K cd0 "_law_no_patterns" = true)
    (k0 : PySem.W.keepIn K (.ref f0) = true)
    {f1 : Addr} {od1 an1 : Option Addr} {sl1 : Array (Option Value)} {oc1 kV1 dc1 pm1 cd1 ct1 : Value}
    (a1 : PySem.W.nsIn K mainGlobals "holds" = some (some (.ref f1)))
    (l1 : K.lookup f1 = some ⟨oc1, od1, .func (PySem.W.fnOf "holds" "holds" (defArgs st_p_holds) (defBody st_p_holds) (defScope st_p_holds) .none kV1 dc1 pm1 an1 cd1 ct1), sl1⟩)
    (c1 : PySem.W.codeIn K cd1 "holds" = true)
    (k1 : PySem.W.keepIn K (.ref f1) = true)
    {f2 : Addr} {od2 an2 : Option Addr} {sl2 : Array (Option Value)} {oc2 kV2 dc2 pm2 cd2 ct2 : Value}
    (a2 : PySem.W.nsIn K mainGlobals "kept_in" = some (some (.ref f2)))
    (l2 : K.lookup f2 = some ⟨oc2, od2, .func (PySem.W.fnOf "kept_in" "kept_in" (defArgs st_p_kept_in) (defBody st_p_kept_in) (defScope st_p_kept_in) .none kV2 dc2 pm2 an2 cd2 ct2), sl2⟩)
    (c2 : PySem.W.codeIn K cd2 "kept_in" = true)
    (k2 : PySem.W.keepIn K (.ref f2) = true)
    {f3 : Addr} {od3 an3 : Option Addr} {sl3 : Array (Option Value)} {oc3 kV3 dc3 pm3 cd3 ct3 : Value}
    (a3 : PySem.W.nsIn K mainGlobals "numbered" = some (some (.ref f3)))
    (l3 : K.lookup f3 = some ⟨oc3, od3, .func (PySem.W.fnOf "numbered" "numbered" (defArgs st_p_numbered) (defBody st_p_numbered) (defScope st_p_numbered) .none kV3 dc3 pm3 an3 cd3 ct3), sl3⟩)
    (c3 : PySem.W.codeIn K cd3 "numbered" = true)
    (k3 : PySem.W.keepIn K (.ref f3) = true)
    {f4 : Addr} {od4 an4 : Option Addr} {sl4 : Array (Option Value)} {oc4 kV4 dc4 pm4 cd4 ct4 : Value}
    (a4 : PySem.W.nsIn K mainGlobals "is_integer" = some (some (.ref f4)))
    (l4 : K.lookup f4 = some ⟨oc4, od4, .func (PySem.W.fnOf "is_integer" "is_integer" (defArgs st_p_is_integer) (defBody st_p_is_integer) (defScope st_p_is_integer) .none kV4 dc4 pm4 an4 cd4 ct4), sl4⟩)
    (c4 : PySem.W.codeIn K cd4 "is_integer" = true)
    (k4 : PySem.W.keepIn K (.ref f4) = true)
    {f5 : Addr} {od5 an5 : Option Addr} {sl5 : Array (Option Value)} {oc5 kV5 dc5 pm5 cd5 ct5 : Value}
    (a5 : PySem.W.nsIn K mainGlobals "_is_numbering" = some (some (.ref f5)))
    (l5 : K.lookup f5 = some ⟨oc5, od5, .func (PySem.W.fnOf "_is_numbering" "_is_numbering" (defArgs st_is_numbering) (defBody st_is_numbering) (defScope st_is_numbering) .none kV5 dc5 pm5 an5 cd5 ct5), sl5⟩)
    (c5 : PySem.W.codeIn K cd5 "_is_numbering" = true)
    (k5 : PySem.W.keepIn K (.ref f5) = true)
    {f6 : Addr} {od6 an6 : Option Addr} {sl6 : Array (Option Value)} {oc6 kV6 dc6 pm6 cd6 ct6 : Value}
    (a6 : PySem.W.nsIn K mainGlobals "is_pattern" = some (some (.ref f6)))
    (l6 : K.lookup f6 = some ⟨oc6, od6, .func (PySem.W.fnOf "is_pattern" "is_pattern" (defArgs st_p_is_pattern) (defBody st_p_is_pattern) (defScope st_p_is_pattern) .none kV6 dc6 pm6 an6 cd6 ct6), sl6⟩)
    (c6 : PySem.W.codeIn K cd6 "is_pattern" = true)
    (k6 : PySem.W.keepIn K (.ref f6) = true)
    {f7 : Addr} {od7 an7 : Option Addr} {sl7 : Array (Option Value)} {oc7 kV7 dc7 pm7 cd7 ct7 : Value}
    (a7 : PySem.W.nsIn K mainGlobals "check_pattern" = some (some (.ref f7)))
    (l7 : K.lookup f7 = some ⟨oc7, od7, .func (PySem.W.fnOf "check_pattern" "check_pattern" (defArgs st_p_check_pattern) (defBody st_p_check_pattern) (defScope st_p_check_pattern) .none kV7 dc7 pm7 an7 cd7 ct7), sl7⟩)
    (c7 : PySem.W.codeIn K cd7 "check_pattern" = true)
    (k7 : PySem.W.keepIn K (.ref f7) = true)
    {f8 : Addr} {od8 an8 : Option Addr} {sl8 : Array (Option Value)} {oc8 kV8 dc8 pm8 cd8 ct8 : Value}
    (a8 : PySem.W.nsIn K mainGlobals "are_unlike_steps" = some (some (.ref f8)))
    (l8 : K.lookup f8 = some ⟨oc8, od8, .func (PySem.W.fnOf "are_unlike_steps" "are_unlike_steps" (defArgs st_p_are_unlike_steps) (defBody st_p_are_unlike_steps) (defScope st_p_are_unlike_steps) .none kV8 dc8 pm8 an8 cd8 ct8), sl8⟩)
    (c8 : PySem.W.codeIn K cd8 "are_unlike_steps" = true)
    (k8 : PySem.W.keepIn K (.ref f8) = true)
    {f9 : Addr} {od9 an9 : Option Addr} {sl9 : Array (Option Value)} {oc9 kV9 dc9 pm9 cd9 ct9 : Value}
    (a9 : PySem.W.nsIn K mainGlobals "_is_count" = some (some (.ref f9)))
    (l9 : K.lookup f9 = some ⟨oc9, od9, .func (PySem.W.fnOf "_is_count" "_is_count" (defArgs st_is_count) (defBody st_is_count) (defScope st_is_count) .none kV9 dc9 pm9 an9 cd9 ct9), sl9⟩)
    (c9 : PySem.W.codeIn K cd9 "_is_count" = true)
    (k9 : PySem.W.keepIn K (.ref f9) = true)
    {f10 : Addr} {od10 an10 : Option Addr} {sl10 : Array (Option Value)} {oc10 kV10 dc10 pm10 cd10 ct10 : Value}
    (a10 : PySem.W.nsIn K mainGlobals "is_fact" = some (some (.ref f10)))
    (l10 : K.lookup f10 = some ⟨oc10, od10, .func (PySem.W.fnOf "is_fact" "is_fact" (defArgs st_p_is_fact) (defBody st_p_is_fact) (defScope st_p_is_fact) .none kV10 dc10 pm10 an10 cd10 ct10), sl10⟩)
    (c10 : PySem.W.codeIn K cd10 "is_fact" = true)
    (k10 : PySem.W.keepIn K (.ref f10) = true)
    {f11 : Addr} {od11 an11 : Option Addr} {sl11 : Array (Option Value)} {oc11 kV11 dc11 pm11 cd11 ct11 : Value}
    (a11 : PySem.W.nsIn K mainGlobals "_is_plain_rule" = some (some (.ref f11)))
    (l11 : K.lookup f11 = some ⟨oc11, od11, .func (PySem.W.fnOf "_is_plain_rule" "_is_plain_rule" (defArgs st_is_plain_rule) (defBody st_is_plain_rule) (defScope st_is_plain_rule) .none kV11 dc11 pm11 an11 cd11 ct11), sl11⟩)
    (c11 : PySem.W.codeIn K cd11 "_is_plain_rule" = true)
    (k11 : PySem.W.keepIn K (.ref f11) = true)
    {f12 : Addr} {od12 an12 : Option Addr} {sl12 : Array (Option Value)} {oc12 kV12 dc12 pm12 cd12 ct12 : Value}
    (a12 : PySem.W.nsIn K mainGlobals "is_rule" = some (some (.ref f12)))
    (l12 : K.lookup f12 = some ⟨oc12, od12, .func (PySem.W.fnOf "is_rule" "is_rule" (defArgs st_p_is_rule) (defBody st_p_is_rule) (defScope st_p_is_rule) .none kV12 dc12 pm12 an12 cd12 ct12), sl12⟩)
    (c12 : PySem.W.codeIn K cd12 "is_rule" = true)
    (k12 : PySem.W.keepIn K (.ref f12) = true)
    {f13 : Addr} {od13 an13 : Option Addr} {sl13 : Array (Option Value)} {oc13 kV13 dc13 pm13 cd13 ct13 : Value}
    (a13 : PySem.W.nsIn K mainGlobals "check_rules" = some (some (.ref f13)))
    (l13 : K.lookup f13 = some ⟨oc13, od13, .func (PySem.W.fnOf "check_rules" "check_rules" (defArgs st_p_check_rules) (defBody st_p_check_rules) (defScope st_p_check_rules) .none kV13 dc13 pm13 an13 cd13 ct13), sl13⟩)
    (c13 : PySem.W.codeIn K cd13 "check_rules" = true)
    (k13 : PySem.W.keepIn K (.ref f13) = true)
    {f14 : Addr} {od14 an14 : Option Addr} {sl14 : Array (Option Value)} {oc14 kV14 dc14 pm14 cd14 ct14 : Value}
    (a14 : PySem.W.nsIn K mainGlobals "keeps" = some (some (.ref f14)))
    (l14 : K.lookup f14 = some ⟨oc14, od14, .func (PySem.W.fnOf "keeps" "keeps" (defArgs st_p_keeps) (defBody st_p_keeps) (defScope st_p_keeps) .none kV14 dc14 pm14 an14 cd14 ct14), sl14⟩)
    (c14 : PySem.W.codeIn K cd14 "keeps" = true)
    (k14 : PySem.W.keepIn K (.ref f14) = true)
    {f15 : Addr} {od15 an15 : Option Addr} {sl15 : Array (Option Value)} {oc15 kV15 dc15 pm15 cd15 ct15 : Value}
    (a15 : PySem.W.nsIn K mainGlobals "_law_raised" = some (some (.ref f15)))
    (l15 : K.lookup f15 = some ⟨oc15, od15, .func (PySem.W.fnOf "_law_raised" "_law_raised" (defArgs st_law_raised) (defBody st_law_raised) (defScope st_law_raised) .none kV15 dc15 pm15 an15 cd15 ct15), sl15⟩)
    (c15 : PySem.W.codeIn K cd15 "_law_raised" = true)
    (k15 : PySem.W.keepIn K (.ref f15) = true)
    {f16 : Addr} {od16 an16 : Option Addr} {sl16 : Array (Option Value)} {oc16 kV16 dc16 pm16 cd16 ct16 : Value}
    (a16 : PySem.W.nsIn K mainGlobals "_law_holds" = some (some (.ref f16)))
    (l16 : K.lookup f16 = some ⟨oc16, od16, .func (PySem.W.fnOf "_law_holds" "_law_holds" (defArgs st_law_holds) (defBody st_law_holds) (defScope st_law_holds) .none kV16 dc16 pm16 an16 cd16 ct16), sl16⟩)
    (c16 : PySem.W.codeIn K cd16 "_law_holds" = true)
    (k16 : PySem.W.keepIn K (.ref f16) = true)
    {f17 : Addr} {od17 an17 : Option Addr} {sl17 : Array (Option Value)} {oc17 kV17 dc17 pm17 cd17 ct17 : Value}
    (a17 : PySem.W.nsIn K mainGlobals "_law_keeps" = some (some (.ref f17)))
    (l17 : K.lookup f17 = some ⟨oc17, od17, .func (PySem.W.fnOf "_law_keeps" "_law_keeps" (defArgs st_law_keeps) (defBody st_law_keeps) (defScope st_law_keeps) .none kV17 dc17 pm17 an17 cd17 ct17), sl17⟩)
    (c17 : PySem.W.codeIn K cd17 "_law_keeps" = true)
    (k17 : PySem.W.keepIn K (.ref f17) = true)
    {f18 : Addr} {od18 an18 : Option Addr} {sl18 : Array (Option Value)} {oc18 kV18 dc18 pm18 cd18 ct18 : Value}
    (a18 : PySem.W.nsIn K mainGlobals "_law_take" = some (some (.ref f18)))
    (l18 : K.lookup f18 = some ⟨oc18, od18, .func (PySem.W.fnOf "_law_take" "_law_take" (defArgs st_law_take) (defBody st_law_take) (defScope st_law_take) .none kV18 dc18 pm18 an18 cd18 ct18), sl18⟩)
    (c18 : PySem.W.codeIn K cd18 "_law_take" = true)
    (k18 : PySem.W.keepIn K (.ref f18) = true)
    {f19 : Addr} {od19 an19 : Option Addr} {sl19 : Array (Option Value)} {oc19 kV19 dc19 pm19 cd19 ct19 : Value}
    (a19 : PySem.W.nsIn K mainGlobals "_law_pick" = some (some (.ref f19)))
    (l19 : K.lookup f19 = some ⟨oc19, od19, .func (PySem.W.fnOf "_law_pick" "_law_pick" (defArgs st_law_pick) (defBody st_law_pick) (defScope st_law_pick) .none kV19 dc19 pm19 an19 cd19 ct19), sl19⟩)
    (c19 : PySem.W.codeIn K cd19 "_law_pick" = true)
    (k19 : PySem.W.keepIn K (.ref f19) = true)
    {f20 : Addr} {od20 an20 : Option Addr} {sl20 : Array (Option Value)} {oc20 kV20 dc20 pm20 cd20 ct20 : Value}
    (a20 : PySem.W.nsIn K mainGlobals "_law_values" = some (some (.ref f20)))
    (l20 : K.lookup f20 = some ⟨oc20, od20, .func (PySem.W.fnOf "_law_values" "_law_values" (defArgs st_law_values) (defBody st_law_values) (defScope st_law_values) .none kV20 dc20 pm20 an20 cd20 ct20), sl20⟩)
    (c20 : PySem.W.codeIn K cd20 "_law_values" = true)
    (k20 : PySem.W.keepIn K (.ref f20) = true)
    {f21 : Addr} {od21 an21 : Option Addr} {sl21 : Array (Option Value)} {oc21 kV21 dc21 pm21 cd21 ct21 : Value}
    (a21 : PySem.W.nsIn K mainGlobals "_law_within" = some (some (.ref f21)))
    (l21 : K.lookup f21 = some ⟨oc21, od21, .func (PySem.W.fnOf "_law_within" "_law_within" (defArgs st_law_within) (defBody st_law_within) (defScope st_law_within) .none kV21 dc21 pm21 an21 cd21 ct21), sl21⟩)
    (c21 : PySem.W.codeIn K cd21 "_law_within" = true)
    (k21 : PySem.W.keepIn K (.ref f21) = true)
    {f22 : Addr} {od22 an22 : Option Addr} {sl22 : Array (Option Value)} {oc22 kV22 dc22 pm22 cd22 ct22 : Value}
    (a22 : PySem.W.nsIn K mainGlobals "_law_facts" = some (some (.ref f22)))
    (l22 : K.lookup f22 = some ⟨oc22, od22, .func (PySem.W.fnOf "_law_facts" "_law_facts" (defArgs st_law_facts) (defBody st_law_facts) (defScope st_law_facts) .none kV22 dc22 pm22 an22 cd22 ct22), sl22⟩)
    (c22 : PySem.W.codeIn K cd22 "_law_facts" = true)
    (k22 : PySem.W.keepIn K (.ref f22) = true)
    {f23 : Addr} {od23 an23 : Option Addr} {sl23 : Array (Option Value)} {oc23 kV23 dc23 pm23 cd23 ct23 : Value}
    (a23 : PySem.W.nsIn K mainGlobals "_law_is" = some (some (.ref f23)))
    (l23 : K.lookup f23 = some ⟨oc23, od23, .func (PySem.W.fnOf "_law_is" "_law_is" (defArgs st_law_is) (defBody st_law_is) (defScope st_law_is) .none kV23 dc23 pm23 an23 cd23 ct23), sl23⟩)
    (c23 : PySem.W.codeIn K cd23 "_law_is" = true)
    (k23 : PySem.W.keepIn K (.ref f23) = true)
    {f24 : Addr} {od24 an24 : Option Addr} {sl24 : Array (Option Value)} {oc24 kV24 dc24 pm24 cd24 ct24 : Value}
    (a24 : PySem.W.nsIn K mainGlobals "_law_some_steps" = some (some (.ref f24)))
    (l24 : K.lookup f24 = some ⟨oc24, od24, .func (PySem.W.fnOf "_law_some_steps" "_law_some_steps" (defArgs st_law_some_steps) (defBody st_law_some_steps) (defScope st_law_some_steps) .none kV24 dc24 pm24 an24 cd24 ct24), sl24⟩)
    (c24 : PySem.W.codeIn K cd24 "_law_some_steps" = true)
    (k24 : PySem.W.keepIn K (.ref f24) = true)
    {f25 : Addr} {od25 an25 : Option Addr} {sl25 : Array (Option Value)} {oc25 kV25 dc25 pm25 cd25 ct25 : Value}
    (a25 : PySem.W.nsIn K mainGlobals "_law_drawn_rule" = some (some (.ref f25)))
    (l25 : K.lookup f25 = some ⟨oc25, od25, .func (PySem.W.fnOf "_law_drawn_rule" "_law_drawn_rule" (defArgs st_law_drawn_rule) (defBody st_law_drawn_rule) (defScope st_law_drawn_rule) .none kV25 dc25 pm25 an25 cd25 ct25), sl25⟩)
    (c25 : PySem.W.codeIn K cd25 "_law_drawn_rule" = true)
    (k25 : PySem.W.keepIn K (.ref f25) = true)
    {f26 : Addr} {od26 an26 : Option Addr} {sl26 : Array (Option Value)} {oc26 kV26 dc26 pm26 cd26 ct26 : Value}
    (a26 : PySem.W.nsIn K mainGlobals "_law_rows" = some (some (.ref f26)))
    (l26 : K.lookup f26 = some ⟨oc26, od26, .func (PySem.W.fnOf "_law_rows" "_law_rows" (defArgs st_law_rows) (defBody st_law_rows) (defScope st_law_rows) .none kV26 dc26 pm26 an26 cd26 ct26), sl26⟩)
    (c26 : PySem.W.codeIn K cd26 "_law_rows" = true)
    (k26 : PySem.W.keepIn K (.ref f26) = true)
    {f27 : Addr} {od27 an27 : Option Addr} {sl27 : Array (Option Value)} {oc27 kV27 dc27 pm27 cd27 ct27 : Value}
    (a27 : PySem.W.nsIn K mainGlobals "_law_patterns" = some (some (.ref f27)))
    (l27 : K.lookup f27 = some ⟨oc27, od27, .func (PySem.W.fnOf "_law_patterns" "_law_patterns" (defArgs st_law_patterns) (defBody st_law_patterns) (defScope st_law_patterns) .none kV27 dc27 pm27 an27 cd27 ct27), sl27⟩)
    (c27 : PySem.W.codeIn K cd27 "_law_patterns" = true)
    (k27 : PySem.W.keepIn K (.ref f27) = true)
    {f28 : Addr} {od28 an28 : Option Addr} {sl28 : Array (Option Value)} {oc28 kV28 dc28 pm28 cd28 ct28 : Value}
    (a28 : PySem.W.nsIn K mainGlobals "_law_step_lists" = some (some (.ref f28)))
    (l28 : K.lookup f28 = some ⟨oc28, od28, .func (PySem.W.fnOf "_law_step_lists" "_law_step_lists" (defArgs st_law_step_lists) (defBody st_law_step_lists) (defScope st_law_step_lists) .none kV28 dc28 pm28 an28 cd28 ct28), sl28⟩)
    (c28 : PySem.W.codeIn K cd28 "_law_step_lists" = true)
    (k28 : PySem.W.keepIn K (.ref f28) = true)
    {f29 : Addr} {od29 an29 : Option Addr} {sl29 : Array (Option Value)} {oc29 kV29 dc29 pm29 cd29 ct29 : Value}
    (a29 : PySem.W.nsIn K mainGlobals "_law_feed" = some (some (.ref f29)))
    (l29 : K.lookup f29 = some ⟨oc29, od29, .func (PySem.W.fnOf "_law_feed" "_law_feed" (defArgs st_law_feed) (defBody st_law_feed) (defScope st_law_feed) .none kV29 dc29 pm29 an29 cd29 ct29), sl29⟩)
    (c29 : PySem.W.codeIn K cd29 "_law_feed" = true)
    (k29 : PySem.W.keepIn K (.ref f29) = true)
    {f30 : Addr} {od30 an30 : Option Addr} {sl30 : Array (Option Value)} {oc30 kV30 dc30 pm30 cd30 ct30 : Value}
    (a30 : PySem.W.nsIn K mainGlobals "law" = some (some (.ref f30)))
    (l30 : K.lookup f30 = some ⟨oc30, od30, .func (PySem.W.fnOf "law" "law" (defArgs st_p_law) (defBody st_p_law) (defScope st_p_law) .none kV30 dc30 pm30 an30 cd30 ct30), sl30⟩)
    (c30 : PySem.W.codeIn K cd30 "law" = true)
    (k30 : PySem.W.keepIn K (.ref f30) = true)
    {aD_OPPOSITES : Addr} {oD_OPPOSITES : Obj} (gd_OPPOSITES : PySem.W.nsIn K mainGlobals "OPPOSITES" = some (some (.ref aD_OPPOSITES)))
    (ld_OPPOSITES : K.lookup aD_OPPOSITES = some oD_OPPOSITES)
    {aT_COUNTS : Addr} (gt_COUNTS : PySem.W.nsIn K mainGlobals "COUNTS" = some (some (.ref aT_COUNTS)))
    {aT_COUNTS_OF_GROUPS : Addr} (gt_COUNTS_OF_GROUPS : PySem.W.nsIn K mainGlobals "COUNTS_OF_GROUPS" = some (some (.ref aT_COUNTS_OF_GROUPS)))
    {aT_LINKS_OF_GROUPS : Addr} (gt_LINKS_OF_GROUPS : PySem.W.nsIn K mainGlobals "LINKS_OF_GROUPS" = some (some (.ref aT_LINKS_OF_GROUPS)))
    (qx2 : exmB K (fun n => [A0, A1, A2, A3].getD n 0) 4 2 = true)
    (qx3 : exmB K (fun n => [A0, A1, A2, A3].getD n 0) 4 3 = true)
    (xf3 : xfB K A3 = true)
    (sd_OPPOSITES : (aD_OPPOSITES == sysModules) = false) (en_OPPOSITES : KDo w.params oD_OPPOSITES [("far", "near"), ("near", "far"), ("same", "unlike"), ("unlike", "same")])
    (kt_COUNTS : ktB K aT_COUNTS ["each", "least", "least groups", "most", "most groups"] = true)
    (kt_COUNTS_OF_GROUPS : ktB K aT_COUNTS_OF_GROUPS ["least groups", "most groups"] = true)
    (kt_LINKS_OF_GROUPS : ktB K aT_LINKS_OF_GROUPS ["near", "same"] = true)
    (z_abs : PySem.W.nsIn K mainGlobals "abs" = some none)
    (z_all : PySem.W.nsIn K mainGlobals "all" = some none)
    (z_bool : PySem.W.nsIn K mainGlobals "bool" = some none)
    (z_enumerate : PySem.W.nsIn K mainGlobals "enumerate" = some none)
    (z_int : PySem.W.nsIn K mainGlobals "int" = some none)
    (z_isinstance : PySem.W.nsIn K mainGlobals "isinstance" = some none)
    (z_len : PySem.W.nsIn K mainGlobals "len" = some none)
    (z_list : PySem.W.nsIn K mainGlobals "list" = some none)
    (z_max : PySem.W.nsIn K mainGlobals "max" = some none)
    (z_min : PySem.W.nsIn K mainGlobals "min" = some none)
    (z_range : PySem.W.nsIn K mainGlobals "range" = some none)
    (z_repr : PySem.W.nsIn K mainGlobals "repr" = some none)
    (z_set : PySem.W.nsIn K mainGlobals "set" = some none)
    (z_sorted : PySem.W.nsIn K mainGlobals "sorted" = some none)
    (z_str : PySem.W.nsIn K mainGlobals "str" = some none)
    (z_tuple : PySem.W.nsIn K mainGlobals "tuple" = some none)
    {t_MOST_COUNTED : Tok} (g_MOST_COUNTED : PySem.W.nsIn K mainGlobals "MOST_COUNTED" = some (some (.int 6 t_MOST_COUNTED)))
    : ∃ (fd : FuncData) (x qual : Str) (st : Stmt) (cl : Nat → Addr), Fun K x qual st fa fd ∧ FnScope N_p_law ["script"] (defScope st) ∧ (∀ (s : Shared) (u : Value), BindsTo s fd ⟨[u], []⟩ [("script", u)]) ∧
        ∀ base : Heap, K.In base → base.Ns mainGlobals mg → ∀ g : Gc, g.K = K → g.cl = cl → g.exn = none → LawBody l.prog w K mg base g qual st N_p_law fa 7 (m_p_law g.ns) := by
  have e := hfa.symm.trans (PySem.W.mg_of X G a30)
  cases e
  have F_law_no_patterns := fun_mk (st := st_law_no_patterns) l0 c0 k0
  have b_law_no_patterns := F_law_no_patterns.binds (ps := ["many"]) fun _ _ _ _ _ _ us hl => match us, hl with | [_], _ => rfl
  have F_p_holds := fun_mk (st := st_p_holds) l1 c1 k1
  have b_p_holds := F_p_holds.binds (ps := ["steps", "fact", "pattern"]) fun _ _ _ _ _ _ us hl => match us, hl with | [_, _, _], _ => rfl
  have F_p_kept_in := fun_mk (st := st_p_kept_in) l2 c2 k2
  have b_p_kept_in := F_p_kept_in.binds (ps := ["steps", "rule", "pattern"]) fun _ _ _ _ _ _ us hl => match us, hl with | [_, _, _], _ => rfl
  have F_p_numbered := fun_mk (st := st_p_numbered) l3 c3 k3
  have b_p_numbered := F_p_numbered.binds (ps := ["things"]) fun _ _ _ _ _ _ us hl => match us, hl with | [_], _ => rfl
  have F_p_is_integer := fun_mk (st := st_p_is_integer) l4 c4 k4
  have b_p_is_integer := F_p_is_integer.binds (ps := ["value"]) fun _ _ _ _ _ _ us hl => match us, hl with | [_], _ => rfl
  have F_is_numbering := fun_mk (st := st_is_numbering) l5 c5 k5
  have b_is_numbering := F_is_numbering.binds (ps := ["many", "value"]) fun _ _ _ _ _ _ us hl => match us, hl with | [_, _], _ => rfl
  have F_p_is_pattern := fun_mk (st := st_p_is_pattern) l6 c6 k6
  have b_p_is_pattern := F_p_is_pattern.binds (ps := ["many", "value"]) fun _ _ _ _ _ _ us hl => match us, hl with | [_, _], _ => rfl
  have F_p_check_pattern := fun_mk (st := st_p_check_pattern) l7 c7 k7
  have b_p_check_pattern := F_p_check_pattern.binds (ps := ["steps", "pattern"]) fun _ _ _ _ _ _ us hl => match us, hl with | [_, _], _ => rfl
  have F_p_are_unlike_steps := fun_mk (st := st_p_are_unlike_steps) l8 c8 k8
  have b_p_are_unlike_steps := F_p_are_unlike_steps.binds (ps := ["steps", "value"]) fun _ _ _ _ _ _ us hl => match us, hl with | [_, _], _ => rfl
  have F_is_count := fun_mk (st := st_is_count) l9 c9 k9
  have b_is_count := F_is_count.binds (ps := ["steps", "value"]) fun _ _ _ _ _ _ us hl => match us, hl with | [_, _], _ => rfl
  have F_p_is_fact := fun_mk (st := st_p_is_fact) l10 c10 k10
  have b_p_is_fact := F_p_is_fact.binds (ps := ["steps", "value"]) fun _ _ _ _ _ _ us hl => match us, hl with | [_, _], _ => rfl
  have F_is_plain_rule := fun_mk (st := st_is_plain_rule) l11 c11 k11
  have b_is_plain_rule := F_is_plain_rule.binds (ps := ["steps", "value"]) fun _ _ _ _ _ _ us hl => match us, hl with | [_, _], _ => rfl
  have F_p_is_rule := fun_mk (st := st_p_is_rule) l12 c12 k12
  have b_p_is_rule := F_p_is_rule.binds (ps := ["steps", "value"]) fun _ _ _ _ _ _ us hl => match us, hl with | [_, _], _ => rfl
  have F_p_check_rules := fun_mk (st := st_p_check_rules) l13 c13 k13
  have b_p_check_rules := F_p_check_rules.binds (ps := ["steps", "rules"]) fun _ _ _ _ _ _ us hl => match us, hl with | [_, _], _ => rfl
  have F_p_keeps := fun_mk (st := st_p_keeps) l14 c14 k14
  have b_p_keeps := F_p_keeps.binds (ps := ["steps", "rule", "pattern"]) fun _ _ _ _ _ _ us hl => match us, hl with | [_, _, _], _ => rfl
  have F_law_raised := fun_mk (st := st_law_raised) l15 c15 k15
  have b_law_raised := F_law_raised.binds (ps := ["steps", "rule", "pattern"]) fun _ _ _ _ _ _ us hl => match us, hl with | [_, _, _], _ => rfl
  have F_law_holds := fun_mk (st := st_law_holds) l16 c16 k16
  have b_law_holds := F_law_holds.binds (ps := ["steps", "pattern", "fact"]) fun _ _ _ _ _ _ us hl => match us, hl with | [_, _, _], _ => rfl
  have F_law_keeps := fun_mk (st := st_law_keeps) l17 c17 k17
  have b_law_keeps := F_law_keeps.binds (ps := ["steps", "rule", "pattern"]) fun _ _ _ _ _ _ us hl => match us, hl with | [_, _, _], _ => rfl
  have F_law_take := fun_mk (st := st_law_take) l18 c18 k18
  have b_law_take := F_law_take.binds (ps := ["feed", "bound"]) fun _ _ _ _ _ _ us hl => match us, hl with | [_, _], _ => rfl
  have F_law_pick := fun_mk (st := st_law_pick) l19 c19 k19
  have b_law_pick := F_law_pick.binds (ps := ["feed", "some"]) fun _ _ _ _ _ _ us hl => match us, hl with | [_, _], _ => rfl
  have F_law_values := fun_mk (st := st_law_values) l20 c20 k20
  have b_law_values := F_law_values.binds (ps := ["feed", "steps", "rule"]) fun _ _ _ _ _ _ us hl => match us, hl with | [_, _, _], _ => rfl
  have F_law_within := fun_mk (st := st_law_within) l21 c21 k21
  have b_law_within := F_law_within.binds (ps := ["value", "low", "high"]) fun _ _ _ _ _ _ us hl => match us, hl with | [_, _, _], _ => rfl
  have F_law_facts := fun_mk (st := st_law_facts) l22 c22 k22
  have b_law_facts := F_law_facts.binds (ps := ["steps"]) fun _ _ _ _ _ _ us hl => match us, hl with | [_], _ => rfl
  have F_law_is := fun_mk (st := st_law_is) l23 c23 k23
  have b_law_is := F_law_is.binds (ps := ["steps", "value", "deep"]) fun _ _ _ _ _ _ us hl => match us, hl with | [_, _, _], _ => rfl
  have F_law_some_steps := fun_mk (st := st_law_some_steps) l24 c24 k24
  have b_law_some_steps := F_law_some_steps.binds (ps := ["feed", "steps"]) fun _ _ _ _ _ _ us hl => match us, hl with | [_, _], _ => rfl
  have F_law_drawn_rule := fun_mk (st := st_law_drawn_rule) l25 c25 k25
  have b_law_drawn_rule := F_law_drawn_rule.binds (ps := ["feed", "steps"]) fun _ _ _ _ _ _ us hl => match us, hl with | [_, _], _ => rfl
  have F_law_rows := fun_mk (st := st_law_rows) l26 c26 k26
  have b_law_rows := F_law_rows.binds (ps := ["many"]) fun _ _ _ _ _ _ us hl => match us, hl with | [_], _ => rfl
  have F_law_patterns := fun_mk (st := st_law_patterns) l27 c27 k27
  have b_law_patterns := F_law_patterns.binds (ps := ["many"]) fun _ _ _ _ _ _ us hl => match us, hl with | [_], _ => rfl
  have F_law_step_lists := fun_mk (st := st_law_step_lists) l28 c28 k28
  have b_law_step_lists := F_law_step_lists.binds (ps := []) fun _ _ _ _ _ _ us hl => match us, hl with | [], _ => rfl
  have F_law_feed := fun_mk (st := st_law_feed) l29 c29 k29
  have b_law_feed := F_law_feed.binds (ps := ["script", "k"]) fun _ _ _ _ _ _ us hl => match us, hl with | [_, _], _ => rfl
  have F_p_law := fun_mk (st := st_p_law) l30 c30 k30
  have b_p_law := F_p_law.binds (ps := ["script"]) fun _ _ _ _ _ _ us hl => match us, hl with | [_], _ => rfl
  refine ⟨_, "law", "law", st_p_law, (fun n => [A0, A1, A2, A3].getD n 0), F_p_law, sc_p_law, fun s v => .of_eq rfl, fun base _ _ g hK hc hx => ?_⟩
  have m1 : mg "NoList" = some (.ref (g.cl 1)) := by rw [hc]; exact PySem.W.mg_of X G ca1
  have x1 : Xc0 K mg "NoList" (g.cl 1) := by rw [hc]; exact ⟨PySem.W.mg_of X G ca1, kx1, xp1, bp1, tp1⟩
  have m2 : mg "BadPattern" = some (.ref (g.cl 2)) := by rw [hc]; exact PySem.W.mg_of X G ca2
  have x2 : Xc0 K mg "BadPattern" (g.cl 2) := by rw [hc]; exact ⟨PySem.W.mg_of X G ca2, kx2, xp2, bp2, tp2⟩
  have m3 : mg "BadRule" = some (.ref (g.cl 3)) := by rw [hc]; exact PySem.W.mg_of X G ca3
  have F3 := fun_mk (st := clsS (topS 4)) il3 ic3 ik3
  have x3 : Xcf l.prog w K mg base "BadRule" "number" (g.cl 3) := by rw [hc]; exact xcf_mk (PySem.W.mg_of X G ca3) (oex_mk lk3 rf3 sa3 bp3 tp3 kx3) in3 ti3 nf3 F3 si_BadRule rfl (F3.binds (ps := ["self", "number"]) fun _ _ _ _ _ _ us hl => match us, hl with | [_, _], _ => rfl) (fun s p u => .of_eq rfl) (by first | exact Or.inl rfl | exact Or.inr (Or.inl rfl) | exact Or.inr (Or.inr rfl)) (by first | exact Or.inl rfl | exact Or.inr (Or.inl rfl) | exact Or.inr (Or.inr rfl)) (by decide) (by decide) (fun X => rfl)
  have B : Fx l.prog w K mg base g := ⟨hK.symm, hx, PySem.W.mg_none_of X G z_abs, PySem.W.mg_none_of X G z_all, PySem.W.mg_none_of X G z_bool, PySem.W.mg_none_of X G z_enumerate, PySem.W.mg_none_of X G z_int, PySem.W.mg_none_of X G z_isinstance, PySem.W.mg_none_of X G z_len, PySem.W.mg_none_of X G z_list, PySem.W.mg_none_of X G z_max, PySem.W.mg_none_of X G z_min, PySem.W.mg_none_of X G z_range, PySem.W.mg_none_of X G z_repr, PySem.W.mg_none_of X G z_set, PySem.W.mg_none_of X G z_sorted, PySem.W.mg_none_of X G z_str, PySem.W.mg_none_of X G z_tuple, ⟨_, PySem.W.mg_of X G g_MOST_COUNTED⟩, ⟨_, PySem.W.mg_of X G gd_OPPOSITES, sd_OPPOSITES, by decide +kernel, _, ld_OPPOSITES, en_OPPOSITES⟩, ⟨_, PySem.W.mg_of X G gt_COUNTS, ktB_ok kt_COUNTS⟩, ⟨_, PySem.W.mg_of X G gt_COUNTS_OF_GROUPS, ktB_ok kt_COUNTS_OF_GROUPS⟩, ⟨_, PySem.W.mg_of X G gt_LINKS_OF_GROUPS, ktB_ok kt_LINKS_OF_GROUPS⟩, m1, x1, m2, x2, m3, x3, (by rw [hc]; exact exmB_ok qx2), (by rw [hc]; exact exmB_ok qx3), (by rw [hc]; exact xfB_ok xf3), (by rw [hc]; exact nf3)⟩
  have G_law_no_patterns := ok_law_no_patterns (P := l.prog) (w := w) B F_law_no_patterns
  have G_p_holds := ok_p_holds (P := l.prog) (w := w) B F_p_holds
  have G_p_kept_in := ok_p_kept_in (P := l.prog) (w := w) B F_p_kept_in G_p_holds b_p_holds (PySem.W.mg_of X G a1) k1 b_p_kept_in (PySem.W.mg_of X G a2) k2
  have G_p_numbered := ok_p_numbered (P := l.prog) (w := w) B F_p_numbered
  have G_p_is_integer := ok_p_is_integer (P := l.prog) (w := w) B F_p_is_integer
  have G_is_numbering := ok_is_numbering (P := l.prog) (w := w) B F_is_numbering G_p_numbered b_p_numbered (PySem.W.mg_of X G a3) k3 G_p_is_integer b_p_is_integer (PySem.W.mg_of X G a4) k4
  have G_p_is_pattern := ok_p_is_pattern (P := l.prog) (w := w) B F_p_is_pattern G_is_numbering b_is_numbering (PySem.W.mg_of X G a5) k5
  have G_p_check_pattern := ok_p_check_pattern (P := l.prog) (w := w) B F_p_check_pattern G_p_is_pattern b_p_is_pattern (PySem.W.mg_of X G a6) k6
  have G_p_are_unlike_steps := ok_p_are_unlike_steps (P := l.prog) (w := w) B F_p_are_unlike_steps
  have G_is_count := ok_is_count (P := l.prog) (w := w) B F_is_count G_p_are_unlike_steps b_p_are_unlike_steps (PySem.W.mg_of X G a8) k8 G_p_is_integer b_p_is_integer (PySem.W.mg_of X G a4) k4
  have G_p_is_fact := ok_p_is_fact (P := l.prog) (w := w) B F_p_is_fact
  have G_is_plain_rule := ok_is_plain_rule (P := l.prog) (w := w) B F_is_plain_rule G_is_count b_is_count (PySem.W.mg_of X G a9) k9 G_p_is_fact b_p_is_fact (PySem.W.mg_of X G a10) k10
  have G_p_is_rule := ok_p_is_rule (P := l.prog) (w := w) B F_p_is_rule G_is_plain_rule b_is_plain_rule (PySem.W.mg_of X G a11) k11 G_p_is_fact b_p_is_fact (PySem.W.mg_of X G a10) k10
  have G_p_check_rules := ok_p_check_rules (P := l.prog) (w := w) B F_p_check_rules G_p_is_rule b_p_is_rule (PySem.W.mg_of X G a12) k12
  have G_p_keeps := ok_p_keeps (P := l.prog) (w := w) B F_p_keeps G_p_kept_in b_p_kept_in (PySem.W.mg_of X G a2) k2 G_p_check_pattern b_p_check_pattern (PySem.W.mg_of X G a7) k7 G_p_check_rules b_p_check_rules (PySem.W.mg_of X G a13) k13
  have G_law_raised := ok_law_raised (P := l.prog) (w := w) B F_law_raised G_p_keeps b_p_keeps (PySem.W.mg_of X G a14) k14
  have G_law_holds := ok_law_holds (P := l.prog) (w := w) B F_law_holds
  have G_law_keeps := ok_law_keeps (P := l.prog) (w := w) B F_law_keeps G_law_holds b_law_holds (PySem.W.mg_of X G a16) k16 b_law_keeps (PySem.W.mg_of X G a17) k17
  have G_law_take := ok_law_take (P := l.prog) (w := w) B F_law_take
  have G_law_pick := ok_law_pick (P := l.prog) (w := w) B F_law_pick G_law_take b_law_take (PySem.W.mg_of X G a18) k18
  have G_law_values := ok_law_values (P := l.prog) (w := w) B F_law_values G_law_pick b_law_pick (PySem.W.mg_of X G a19) k19
  have G_law_within := ok_law_within (P := l.prog) (w := w) B F_law_within
  have G_law_facts := ok_law_facts (P := l.prog) (w := w) B F_law_facts
  have G_law_is := ok_law_is (P := l.prog) (w := w) B F_law_is G_law_within b_law_within (PySem.W.mg_of X G a21) k21 G_law_facts b_law_facts (PySem.W.mg_of X G a22) k22 b_law_is (PySem.W.mg_of X G a23) k23
  have G_law_some_steps := ok_law_some_steps (P := l.prog) (w := w) B F_law_some_steps G_law_pick b_law_pick (PySem.W.mg_of X G a19) k19 G_law_take b_law_take (PySem.W.mg_of X G a18) k18
  have G_law_drawn_rule := ok_law_drawn_rule (P := l.prog) (w := w) B F_law_drawn_rule G_law_pick b_law_pick (PySem.W.mg_of X G a19) k19 G_law_take b_law_take (PySem.W.mg_of X G a18) k18 G_law_some_steps b_law_some_steps (PySem.W.mg_of X G a24) k24 G_law_facts b_law_facts (PySem.W.mg_of X G a22) k22
  have G_law_rows := ok_law_rows (P := l.prog) (w := w) B F_law_rows
  have G_law_patterns := ok_law_patterns (P := l.prog) (w := w) B F_law_patterns G_law_rows b_law_rows (PySem.W.mg_of X G a26) k26
  have G_law_step_lists := ok_law_step_lists (P := l.prog) (w := w) B F_law_step_lists
  have G_law_feed := ok_law_feed (P := l.prog) (w := w) B F_law_feed
  exact body_law (P := l.prog) (w := w) B G_law_no_patterns b_law_no_patterns (PySem.W.mg_of X G a0) k0 G_law_raised b_law_raised (PySem.W.mg_of X G a15) k15 G_p_keeps b_p_keeps (PySem.W.mg_of X G a14) k14 G_law_keeps b_law_keeps (PySem.W.mg_of X G a17) k17 G_law_pick b_law_pick (PySem.W.mg_of X G a19) k19 G_law_values b_law_values (PySem.W.mg_of X G a20) k20 G_law_is b_law_is (PySem.W.mg_of X G a23) k23 G_p_is_rule b_p_is_rule (PySem.W.mg_of X G a12) k12 G_law_drawn_rule b_law_drawn_rule (PySem.W.mg_of X G a25) k25 G_law_patterns b_law_patterns (PySem.W.mg_of X G a27) k27 G_law_step_lists b_law_step_lists (PySem.W.mg_of X G a28) k28 G_law_feed b_law_feed (PySem.W.mg_of X G a29) k29
end Law
set_option Elab.async false
set_option linter.all false
set_option maxRecDepth 1000000
set_option maxHeartbeats 0
namespace Law
open PySem PySem.Spec PyProof.Rows L2 Vm
/-! ### the steps, the patterns, the facts, the rules -/
abbrev fd (d s : Int) : O := .lst [.int d, .int s]
def Ls : Nat → List Str
  | 0 => ["a", "b"]
  | 1 => ["c", "a", "b"]
  | 2 => ["ask", "bid", "cut", "dig"]
  | 3 => ["d", "c", "b", "a"]
  | 4 => ["ab", "a", "abc"]
  | _ => ["one"]
def SD (i : Nat) : PyData := .list ((Ls i).map .str)
abbrev SU (i : Nat) : U := .dat (SD i)
def many (i : Nat) : Nat := (Ls i).length
def lstOf : P0 → List PyData
  | .ok (.dat (.list l)) => l
  | _ => []
def rowsN : Nat → List (List Int)
  | 0 => [[]]
  | n + 1 => (rowsN n).flatMap fun r => (List.range ((unl r).length + 1)).map fun (k : Nat) => r ++ [(k : Int)]
def encR (r : List Int) : PyData := .tuple (r.map .int)
def encP (p : List Int × List Int) : PyData := .tuple [encR p.1, encR p.2]
def PTn (i : Nat) : List (List Int × List Int) := (rowsN (many i)).flatMap fun h => ((rowsN (many i)).filter fun g => (unl (h.zip g)).length == (unl h).length).map fun g => (h, g)
def PT (i : Nat) : List PyData := (PTn i).map encP
def FC (i : Nat) : List PyData := lstOf (p_law_facts [] [SU i])
def subs : List Str → List (List Str)
  | [] => [[]]
  | x :: l => (subs l).map (x :: ·) ++ subs l
/-- the chosen steps -/
def CH (i : Nat) : List (List Str) := (subs (Ls i)).filter fun l => !l.isEmpty
def wordsL : List Str := ["most", "least"]
def wordsG : List Str := ["most groups", "least groups"]
def words : List Str := ["most", "least", "each", "most groups", "least groups"]
def cnt (w : Str) (l : List Str) (c : Int) : PyData := .tuple [.str w, .tuple (l.map .str), .int c]
def CN (i : Nat) : List PyData := words.flatMap fun w => (CH i).flatMap fun l => [0, 1, 2, 3].map fun (c : Int) => cnt w l c
def PL (i : Nat) : List PyData := FC i ++ CN i
def ifR (x y : PyData) : PyData := .tuple [.str "if", x, y]
def fst_ (i : Nat) : PyData := .str ((Ls i).headD "")
def lst_ (i : Nat) : PyData := .str ((Ls i).getLastD "")
def sm (i : Nat) : PyData := .tuple [.str "same", fst_ i, lst_ i]
def FX (i : Nat) : List PyData := sm i :: FC i
def okB : P0 → Option Bool
  | .ok (.bl b) => some b
  | _ => none
def okIs (p : P0) (b : Bool) : Bool := match p with
  | .ok (.bl c) => c == b
  | _ => false
theorem okIs_eq {p : P0} {b : Bool} (h : okIs p b = true) : p = .ok (.bl b) := by
  unfold okIs at h
  split at h
  · rw [beq_iff_eq.mp h]
  · cases h
def same2 (a b : P0) : Bool := match a, b with
  | .ok (.bl a), .ok (.bl b) => a == b
  | _, _ => false
theorem same2_eq {p q : P0} (h : same2 p q = true) : ∃ b, p = .ok (.bl b) ∧ q = .ok (.bl b) := by
  unfold same2 at h
  split at h
  · rename_i a b
    exact ⟨a, rfl, by rw [beq_iff_eq.mp h]⟩
  · cases h
def gdB (v : PyData) : Bool := PyData.strOk v.shown && v.canLay0 && v.showable && Nat.ble v.shown.length 200 && Nat.ble v.depth 4
theorem gd_sk {v : PyData} (h : gdB v = true) : Sk 200 4 v := by
  unfold gdB at h
  simp only [Bool.and_eq_true]
                          at h
  obtain ⟨⟨⟨⟨h1, h2⟩, h3⟩, h4⟩, h5⟩ := h
  exact ⟨h1, h2, h3, Nat.ble_eq.mp h4, Nat.ble_eq.mp h5⟩
theorem lists_is (ns : List Int) : p_law_step_lists ns [] = .ok (.dat (.list [SD 0, SD 1, SD 2, SD 3, SD 4, SD 5])) := by kernel_rfl
def mapA {α β : Type} (f : α → β) : List α → List β
  | [] => []
  | x :: l => f x :: mapA f l
theorem mapA_eq {α β : Type} {f g : α → β} : ∀ {l : List α}, mapA f l = l.map g → ∀ x ∈ l, f x = g x
  | [], _, _, h => nomatch h
  | y :: l, e, x, h => by
    obtain ⟨e1, e2⟩ := List.cons.inj e
    rcases List.mem_cons.mp h
                            with rfl | h
    · exact e1
    · exact mapA_eq e2 x h
theorem pats1 (ns : List Int) : p_law_patterns ns [.int (1 : Nat)] = P0.ok (.dat (.list (PT 5))) := by kernel_rfl
theorem pats2 (ns : List Int) : p_law_patterns ns [.int (2 : Nat)] = P0.ok (.dat (.list (PT 0))) := by kernel_rfl
theorem pats3 (ns : List Int) : p_law_patterns ns [.int (3 : Nat)] = P0.ok (.dat (.list (PT 1))) := by kernel_rfl
theorem pats4 (ns : List Int) : p_law_patterns ns [.int (4 : Nat)] = P0.ok (.dat (.list (PT 2))) := by kernel_rfl
theorem facts0 (ns : List Int) : p_law_facts ns [SU 0] = .ok (.dat (.list (FC 0))) := by kernel_rfl
theorem facts1 (ns : List Int) : p_law_facts ns [SU 1] = .ok (.dat (.list (FC 1))) := by kernel_rfl
theorem facts2 (ns : List Int) : p_law_facts ns [SU 2] = .ok (.dat (.list (FC 2))) := by kernel_rfl
theorem facts3 (ns : List Int) : p_law_facts ns [SU 3] = .ok (.dat (.list (FC 3))) := by kernel_rfl
theorem facts4 (ns : List Int) : p_law_facts ns [SU 4] = .ok (.dat (.list (FC 4))) := by kernel_rfl
theorem facts5 (ns : List Int) : p_law_facts ns [SU 5] = .ok (.dat (.list (FC 5))) := by kernel_rfl
theorem lt6 {P : Nat → Prop} (h0 : P 0) (h1 : P 1) (h2 : P 2) (h3 : P 3) (h4 : P 4) (h5 : P 5) : ∀ i, i < 6 → P i
  | 0, _ => h0
  | 1, _ => h1
  | 2, _ => h2
  | 3, _ => h3
  | 4, _ => h4
  | 5, _ => h5
  | n + 6, h => absurd h (by omega)
theorem pats_at (ns : List Int) : ∀ i, i < 6 → p_law_patterns ns [.int (many i : Nat)] = .ok (.dat (.list (PT i))) :=
  lt6 (pats2 ns) (pats3 ns) (pats4 ns) (pats4 ns) (pats3 ns) (pats1 ns)
theorem facts_at (ns : List Int) : ∀ i, i < 6 → p_law_facts ns [SU i] = .ok (.dat (.list (FC i))) :=
  lt6 (facts0 ns) (facts1 ns) (facts2 ns) (facts3 ns) (facts4 ns) (facts5 ns)
end Law

set_option Elab.async false
set_option linter.all false
set_option maxRecDepth 1000000
set_option maxHeartbeats 0
namespace Law
open PySem PySem.Spec PyProof.Rows L2 Vm
/-! ### values -/
/-- no rule, by both looks -/
def nrB (ns : List Int) (rec : List U → Mh → R U) (d : Bool) (i : Nat) (v : PyData) : Bool := okIs (p_is_plain_rule ns [SU i, ofPd v]) false && okIs (p_p_is_rule ns [SU i, ofPd v]) false && okIs (pfn 6 (m_law_is ns rec) [SU i, ofPd v, .bl d]) false
def some_ (i : Nat) : PyData := .tuple ((Ls i).map .str)
def mst (w : Str) (l c : PyData) : PyData := .tuple [.str w, l, c]
/-- what hangs on the steps alone -/
def FV (i : Nat) : List PyData := [.none, .tuple [], .int 0, .str "most",
  mst "most" (some_ i) (.int 7), mst "most" (some_ i) (.int (-1)), mst "most" (some_ i) (.bool true), mst "least" (some_ i) (.str "1"),
  mst "each" (SD i) (.int 1), mst "most" (.tuple []) (.int 1), mst "most" (.tuple ((Ls i).map .str ++ [fst_ i])) (.int 1), mst "most" (.tuple ((Ls i).map .str).reverse) (.int 1),
  mst "most" (fst_ i) (.int 1), mst "each" (.tuple [.none]) (.int 1), mst "Most" (some_ i) (.int 1), mst "most groups" (.tuple [.str "q"]) (.int 1), mst "least groups" (some_ i) (.int 6),
  mst "least" (some_ i) (.int 0), .tuple [.list [], some_ i, .int 1],
  ifR (sm i) (mst "most" (some_ i) (.int 1)), ifR (.tuple [.str "same", lst_ i, fst_ i]) (mst "most" (some_ i) (.int 1)),
  ifR (.tuple [.str "near", fst_ i, lst_ i]) (ifR (.tuple [.str "near", fst_ i, lst_ i]) (mst "most" (some_ i) (.int 1))),
  mst "most" (.tuple [.list [fst_ i]]) (.int 1),
  ifR (sm i) .none, ifR (sm i) (mst "most" (some_ i) (.int 7)), mst "most  groups" (some_ i) (.int 1), mst "groups most" (some_ i) (.int 1)]
def nought (i : Nat) : List Int := List.replicate (many i) 0
/-- no patterns -/
def BD (i : Nat) : List PyData := [.none, .tuple [], .tuple [encR (nought i)], .list [encR (nought i), encR (nought i)], .tuple [encR (nought i ++ [0]), encR (nought i ++ [0])],
  .tuple [encR (List.replicate (many i) 1), encR (nought i)], .tuple [encR (nought i), encR (List.replicate (many i - 1) 0 ++ [1])], .tuple [.tuple (List.replicate (many i) (.bool false)), encR (nought i)],
  .tuple [encR (nought i), .tuple (List.replicate (many i) .none)], .tuple [encR (nought i), encR (List.replicate (many i) (-1))]]
/-- the texts that stand in rules -/
def SS : List Str := ["if", "same", "unlike", "near", "far", "most", "least", "each", "most groups", "least groups", "a", "b", "c", "d", "ab", "abc", "ask", "bid", "cut", "dig", "one", "1", "q", "Most", "most  groups", "groups most"]
theorem ss_ok : (SS.all fun x => gdB (.str x)) = true := by kernel_rfl
end Law

set_option Elab.async false
set_option linter.all false
set_option maxRecDepth 1000000
set_option maxHeartbeats 0
namespace Law
open PySem PySem.Spec PyProof.Rows L2 Vm
theorem k_plain0 (ns : List Int) (rec : List U → Mh → R U) (d : Bool) : ((PL 0).all fun p => okIs (p_is_plain_rule ns [SU 0, ofPd p]) true && okIs (pfn 6 (m_law_is ns rec) [SU 0, ofPd p, .bl d]) true) = true := by kernel_rfl
theorem k_plain1 (ns : List Int) (rec : List U → Mh → R U) (d : Bool) : ((PL 1).all fun p => okIs (p_is_plain_rule ns [SU 1, ofPd p]) true && okIs (pfn 6 (m_law_is ns rec) [SU 1, ofPd p, .bl d]) true) = true := by kernel_rfl
theorem k_plain2 (ns : List Int) (rec : List U → Mh → R U) (d : Bool) : ((PL 2).all fun p => okIs (p_is_plain_rule ns [SU 2, ofPd p]) true && okIs (pfn 6 (m_law_is ns rec) [SU 2, ofPd p, .bl d]) true) = true := by kernel_rfl
theorem k_plain3 (ns : List Int) (rec : List U → Mh → R U) (d : Bool) : ((PL 3).all fun p => okIs (p_is_plain_rule ns [SU 3, ofPd p]) true && okIs (pfn 6 (m_law_is ns rec) [SU 3, ofPd p, .bl d]) true) = true := by kernel_rfl
theorem k_plain4 (ns : List Int) (rec : List U → Mh → R U) (d : Bool) : ((PL 4).all fun p => okIs (p_is_plain_rule ns [SU 4, ofPd p]) true && okIs (pfn 6 (m_law_is ns rec) [SU 4, ofPd p, .bl d]) true) = true := by kernel_rfl
theorem k_plain5 (ns : List Int) (rec : List U → Mh → R U) (d : Bool) : ((PL 5).all fun p => okIs (p_is_plain_rule ns [SU 5, ofPd p]) true && okIs (pfn 6 (m_law_is ns rec) [SU 5, ofPd p, .bl d]) true) = true := by kernel_rfl
theorem k_plain (ns : List Int) (rec : List U → Mh → R U) (d : Bool) : ∀ i, i < 6 → ((PL i).all fun p => okIs (p_is_plain_rule ns [SU i, ofPd p]) true && okIs (pfn 6 (m_law_is ns rec) [SU i, ofPd p, .bl d]) true) = true :=
  lt6 (k_plain0 ns rec d) (k_plain1 ns rec d) (k_plain2 ns rec d) (k_plain3 ns rec d) (k_plain4 ns rec d) (k_plain5 ns rec d)
theorem k_fact0 (ns : List Int) : ((FX 0).all fun p => okIs (p_p_is_fact ns [SU 0, ofPd p]) (0 != 5)) = true := by kernel_rfl
theorem k_fact1 (ns : List Int) : ((FX 1).all fun p => okIs (p_p_is_fact ns [SU 1, ofPd p]) (1 != 5)) = true := by kernel_rfl
theorem k_fact2 (ns : List Int) : ((FX 2).all fun p => okIs (p_p_is_fact ns [SU 2, ofPd p]) (2 != 5)) = true := by kernel_rfl
theorem k_fact3 (ns : List Int) : ((FX 3).all fun p => okIs (p_p_is_fact ns [SU 3, ofPd p]) (3 != 5)) = true := by kernel_rfl
theorem k_fact4 (ns : List Int) : ((FX 4).all fun p => okIs (p_p_is_fact ns [SU 4, ofPd p]) (4 != 5)) = true := by kernel_rfl
theorem k_fact5 (ns : List Int) : ((FX 5).all fun p => okIs (p_p_is_fact ns [SU 5, ofPd p]) (5 != 5)) = true := by kernel_rfl
theorem k_fact (ns : List Int) : ∀ i, i < 6 → ((FX i).all fun p => okIs (p_p_is_fact ns [SU i, ofPd p]) (i != 5)) = true :=
  lt6 (k_fact0 ns) (k_fact1 ns) (k_fact2 ns) (k_fact3 ns) (k_fact4 ns) (k_fact5 ns)
theorem k_nofact0 (ns : List Int) (rec : List U → Mh → R U) (c : Int) (d : Bool) (y : PyData) : (words.all fun w => (CH 0).all fun l => okIs (p_p_is_fact ns [SU 0, .dat (cnt w l c)]) false && okIs (pfn 6 (m_law_is ns rec) [SU 0, .dat (ifR (cnt w l c) y), .bl d]) false) = true := by kernel_rfl
theorem k_nofact1 (ns : List Int) (rec : List U → Mh → R U) (c : Int) (d : Bool) (y : PyData) : (words.all fun w => (CH 1).all fun l => okIs (p_p_is_fact ns [SU 1, .dat (cnt w l c)]) false && okIs (pfn 6 (m_law_is ns rec) [SU 1, .dat (ifR (cnt w l c) y), .bl d]) false) = true := by kernel_rfl
theorem k_nofact2 (ns : List Int) (rec : List U → Mh → R U) (c : Int) (d : Bool) (y : PyData) : (words.all fun w => (CH 2).all fun l => okIs (p_p_is_fact ns [SU 2, .dat (cnt w l c)]) false && okIs (pfn 6 (m_law_is ns rec) [SU 2, .dat (ifR (cnt w l c) y), .bl d]) false) = true := by kernel_rfl
theorem k_nofact3 (ns : List Int) (rec : List U → Mh → R U) (c : Int) (d : Bool) (y : PyData) : (words.all fun w => (CH 3).all fun l => okIs (p_p_is_fact ns [SU 3, .dat (cnt w l c)]) false && okIs (pfn 6 (m_law_is ns rec) [SU 3, .dat (ifR (cnt w l c) y), .bl d]) false) = true := by kernel_rfl
theorem k_nofact4 (ns : List Int) (rec : List U → Mh → R U) (c : Int) (d : Bool) (y : PyData) : (words.all fun w => (CH 4).all fun l => okIs (p_p_is_fact ns [SU 4, .dat (cnt w l c)]) false && okIs (pfn 6 (m_law_is ns rec) [SU 4, .dat (ifR (cnt w l c) y), .bl d]) false) = true := by kernel_rfl
theorem k_nofact5 (ns : List Int) (rec : List U → Mh → R U) (c : Int) (d : Bool) (y : PyData) : (words.all fun w => (CH 5).all fun l => okIs (p_p_is_fact ns [SU 5, .dat (cnt w l c)]) false && okIs (pfn 6 (m_law_is ns rec) [SU 5, .dat (ifR (cnt w l c) y), .bl d]) false) = true := by kernel_rfl
theorem k_nofact (ns : List Int) (rec : List U → Mh → R U) (c : Int) (d : Bool) (y : PyData) : ∀ i, i < 6 → (words.all fun w => (CH i).all fun l => okIs (p_p_is_fact ns [SU i, .dat (cnt w l c)]) false && okIs (pfn 6 (m_law_is ns rec) [SU i, .dat (ifR (cnt w l c) y), .bl d]) false) = true :=
  lt6 (k_nofact0 ns rec c d y) (k_nofact1 ns rec c d y) (k_nofact2 ns rec c d y) (k_nofact3 ns rec c d y) (k_nofact4 ns rec c d y) (k_nofact5 ns rec c d y)
theorem k_revF0 (ns : List Int) (rec : List U → Mh → R U) (d : Bool) : ((FC 0).all fun p => match p with
    | .tuple [a, b, c] => nrB ns rec d 0 (.tuple [c, b, a])
    | _ => false) = true := by kernel_rfl
theorem k_revF1 (ns : List Int) (rec : List U → Mh → R U) (d : Bool) : ((FC 1).all fun p => match p with
    | .tuple [a, b, c] => nrB ns rec d 1 (.tuple [c, b, a])
    | _ => false) = true := by kernel_rfl
theorem k_revF2 (ns : List Int) (rec : List U → Mh → R U) (d : Bool) : ((FC 2).all fun p => match p with
    | .tuple [a, b, c] => nrB ns rec d 2 (.tuple [c, b, a])
    | _ => false) = true := by kernel_rfl
theorem k_revF3 (ns : List Int) (rec : List U → Mh → R U) (d : Bool) : ((FC 3).all fun p => match p with
    | .tuple [a, b, c] => nrB ns rec d 3 (.tuple [c, b, a])
    | _ => false) = true := by kernel_rfl
theorem k_revF4 (ns : List Int) (rec : List U → Mh → R U) (d : Bool) : ((FC 4).all fun p => match p with
    | .tuple [a, b, c] => nrB ns rec d 4 (.tuple [c, b, a])
    | _ => false) = true := by kernel_rfl
theorem k_revF5 (ns : List Int) (rec : List U → Mh → R U) (d : Bool) : ((FC 5).all fun p => match p with
    | .tuple [a, b, c] => nrB ns rec d 5 (.tuple [c, b, a])
    | _ => false) = true := by kernel_rfl
theorem k_revF (ns : List Int) (rec : List U → Mh → R U) (d : Bool) : ∀ i, i < 6 → ((FC i).all fun p => match p with
    | .tuple [a, b, c] => nrB ns rec d i (.tuple [c, b, a])
    | _ => false) = true :=
  lt6 (k_revF0 ns rec d) (k_revF1 ns rec d) (k_revF2 ns rec d) (k_revF3 ns rec d) (k_revF4 ns rec d) (k_revF5 ns rec d)
theorem k_revC0 (ns : List Int) (rec : List U → Mh → R U) (d : Bool) (c : Int) : (words.all fun w => (CH 0).all fun l => nrB ns rec d 0 (.tuple [.int c, .tuple (l.map .str), .str w])) = true := by kernel_rfl
theorem k_revC1 (ns : List Int) (rec : List U → Mh → R U) (d : Bool) (c : Int) : (words.all fun w => (CH 1).all fun l => nrB ns rec d 1 (.tuple [.int c, .tuple (l.map .str), .str w])) = true := by kernel_rfl
theorem k_revC2 (ns : List Int) (rec : List U → Mh → R U) (d : Bool) (c : Int) : (words.all fun w => (CH 2).all fun l => nrB ns rec d 2 (.tuple [.int c, .tuple (l.map .str), .str w])) = true := by kernel_rfl
theorem k_revC3 (ns : List Int) (rec : List U → Mh → R U) (d : Bool) (c : Int) : (words.all fun w => (CH 3).all fun l => nrB ns rec d 3 (.tuple [.int c, .tuple (l.map .str), .str w])) = true := by kernel_rfl
theorem k_revC4 (ns : List Int) (rec : List U → Mh → R U) (d : Bool) (c : Int) : (words.all fun w => (CH 4).all fun l => nrB ns rec d 4 (.tuple [.int c, .tuple (l.map .str), .str w])) = true := by kernel_rfl
theorem k_revC5 (ns : List Int) (rec : List U → Mh → R U) (d : Bool) (c : Int) : (words.all fun w => (CH 5).all fun l => nrB ns rec d 5 (.tuple [.int c, .tuple (l.map .str), .str w])) = true := by kernel_rfl
theorem k_revC (ns : List Int) (rec : List U → Mh → R U) (d : Bool) (c : Int) : ∀ i, i < 6 → (words.all fun w => (CH i).all fun l => nrB ns rec d i (.tuple [.int c, .tuple (l.map .str), .str w])) = true :=
  lt6 (k_revC0 ns rec d c) (k_revC1 ns rec d c) (k_revC2 ns rec d c) (k_revC3 ns rec d c) (k_revC4 ns rec d c) (k_revC5 ns rec d c)
theorem k_revIF0 (ns : List Int) (rec : List U → Mh → R U) (d : Bool) (f : PyData) : ((FC 0).all fun p => nrB ns rec d 0 (.tuple [p, f, .str "if"])) = true := by kernel_rfl
theorem k_revIF1 (ns : List Int) (rec : List U → Mh → R U) (d : Bool) (f : PyData) : ((FC 1).all fun p => nrB ns rec d 1 (.tuple [p, f, .str "if"])) = true := by kernel_rfl
theorem k_revIF2 (ns : List Int) (rec : List U → Mh → R U) (d : Bool) (f : PyData) : ((FC 2).all fun p => nrB ns rec d 2 (.tuple [p, f, .str "if"])) = true := by kernel_rfl
theorem k_revIF3 (ns : List Int) (rec : List U → Mh → R U) (d : Bool) (f : PyData) : ((FC 3).all fun p => nrB ns rec d 3 (.tuple [p, f, .str "if"])) = true := by kernel_rfl
theorem k_revIF4 (ns : List Int) (rec : List U → Mh → R U) (d : Bool) (f : PyData) : ((FC 4).all fun p => nrB ns rec d 4 (.tuple [p, f, .str "if"])) = true := by kernel_rfl
theorem k_revIF5 (ns : List Int) (rec : List U → Mh → R U) (d : Bool) (f : PyData) : ((FC 5).all fun p => nrB ns rec d 5 (.tuple [p, f, .str "if"])) = true := by kernel_rfl
theorem k_revIF (ns : List Int) (rec : List U → Mh → R U) (d : Bool) (f : PyData) : ∀ i, i < 6 → ((FC i).all fun p => nrB ns rec d i (.tuple [p, f, .str "if"])) = true :=
  lt6 (k_revIF0 ns rec d f) (k_revIF1 ns rec d f) (k_revIF2 ns rec d f) (k_revIF3 ns rec d f) (k_revIF4 ns rec d f) (k_revIF5 ns rec d f)
theorem k_revIC0 (ns : List Int) (rec : List U → Mh → R U) (d : Bool) (f : PyData) (c : Int) : (words.all fun w => (CH 0).all fun l => nrB ns rec d 0 (.tuple [cnt w l c, f, .str "if"])) = true := by kernel_rfl
theorem k_revIC1 (ns : List Int) (rec : List U → Mh → R U) (d : Bool) (f : PyData) (c : Int) : (words.all fun w => (CH 1).all fun l => nrB ns rec d 1 (.tuple [cnt w l c, f, .str "if"])) = true := by kernel_rfl
theorem k_revIC2 (ns : List Int) (rec : List U → Mh → R U) (d : Bool) (f : PyData) (c : Int) : (words.all fun w => (CH 2).all fun l => nrB ns rec d 2 (.tuple [cnt w l c, f, .str "if"])) = true := by kernel_rfl
theorem k_revIC3 (ns : List Int) (rec : List U → Mh → R U) (d : Bool) (f : PyData) (c : Int) : (words.all fun w => (CH 3).all fun l => nrB ns rec d 3 (.tuple [cnt w l c, f, .str "if"])) = true := by kernel_rfl
theorem k_revIC4 (ns : List Int) (rec : List U → Mh → R U) (d : Bool) (f : PyData) (c : Int) : (words.all fun w => (CH 4).all fun l => nrB ns rec d 4 (.tuple [cnt w l c, f, .str "if"])) = true := by kernel_rfl
theorem k_revIC5 (ns : List Int) (rec : List U → Mh → R U) (d : Bool) (f : PyData) (c : Int) : (words.all fun w => (CH 5).all fun l => nrB ns rec d 5 (.tuple [cnt w l c, f, .str "if"])) = true := by kernel_rfl
theorem k_revIC (ns : List Int) (rec : List U → Mh → R U) (d : Bool) (f : PyData) (c : Int) : ∀ i, i < 6 → (words.all fun w => (CH i).all fun l => nrB ns rec d i (.tuple [cnt w l c, f, .str "if"])) = true :=
  lt6 (k_revIC0 ns rec d f c) (k_revIC1 ns rec d f c) (k_revIC2 ns rec d f c) (k_revIC3 ns rec d f c) (k_revIC4 ns rec d f c) (k_revIC5 ns rec d f c)
theorem k_ffix0 (ns : List Int) : ((FV 0).all fun v => same2 (p_p_is_rule ns [SU 0, ofPd v]) (p_law_is ns [SU 0, ofPd v, .bl true]) && same2 (p_is_plain_rule ns [SU 0, ofPd v]) (r_law_is ns 1 [SU 0, ofPd v, .bl false])) = true := by kernel_rfl
theorem k_ffix1 (ns : List Int) : ((FV 1).all fun v => same2 (p_p_is_rule ns [SU 1, ofPd v]) (p_law_is ns [SU 1, ofPd v, .bl true]) && same2 (p_is_plain_rule ns [SU 1, ofPd v]) (r_law_is ns 1 [SU 1, ofPd v, .bl false])) = true := by kernel_rfl
theorem k_ffix2 (ns : List Int) : ((FV 2).all fun v => same2 (p_p_is_rule ns [SU 2, ofPd v]) (p_law_is ns [SU 2, ofPd v, .bl true]) && same2 (p_is_plain_rule ns [SU 2, ofPd v]) (r_law_is ns 1 [SU 2, ofPd v, .bl false])) = true := by kernel_rfl
theorem k_ffix3 (ns : List Int) : ((FV 3).all fun v => same2 (p_p_is_rule ns [SU 3, ofPd v]) (p_law_is ns [SU 3, ofPd v, .bl true]) && same2 (p_is_plain_rule ns [SU 3, ofPd v]) (r_law_is ns 1 [SU 3, ofPd v, .bl false])) = true := by kernel_rfl
theorem k_ffix4 (ns : List Int) : ((FV 4).all fun v => same2 (p_p_is_rule ns [SU 4, ofPd v]) (p_law_is ns [SU 4, ofPd v, .bl true]) && same2 (p_is_plain_rule ns [SU 4, ofPd v]) (r_law_is ns 1 [SU 4, ofPd v, .bl false])) = true := by kernel_rfl
theorem k_ffix5 (ns : List Int) : ((FV 5).all fun v => same2 (p_p_is_rule ns [SU 5, ofPd v]) (p_law_is ns [SU 5, ofPd v, .bl true]) && same2 (p_is_plain_rule ns [SU 5, ofPd v]) (r_law_is ns 1 [SU 5, ofPd v, .bl false])) = true := by kernel_rfl
theorem k_ffix (ns : List Int) : ∀ i, i < 6 → ((FV i).all fun v => same2 (p_p_is_rule ns [SU i, ofPd v]) (p_law_is ns [SU i, ofPd v, .bl true]) && same2 (p_is_plain_rule ns [SU i, ofPd v]) (r_law_is ns 1 [SU i, ofPd v, .bl false])) = true :=
  lt6 (k_ffix0 ns) (k_ffix1 ns) (k_ffix2 ns) (k_ffix3 ns) (k_ffix4 ns) (k_ffix5 ns)
theorem k_pat0 (ns : List Int) : ((PT 0).all fun q => okIs (p_p_is_pattern ns [.int (many 0 : Nat), ofPd q]) true) = true := by kernel_rfl
theorem k_pat1 (ns : List Int) : ((PT 1).all fun q => okIs (p_p_is_pattern ns [.int (many 1 : Nat), ofPd q]) true) = true := by kernel_rfl
theorem k_pat2 (ns : List Int) : ((PT 2).all fun q => okIs (p_p_is_pattern ns [.int (many 2 : Nat), ofPd q]) true) = true := by kernel_rfl
theorem k_pat3 (ns : List Int) : ((PT 3).all fun q => okIs (p_p_is_pattern ns [.int (many 3 : Nat), ofPd q]) true) = true := by kernel_rfl
theorem k_pat4 (ns : List Int) : ((PT 4).all fun q => okIs (p_p_is_pattern ns [.int (many 4 : Nat), ofPd q]) true) = true := by kernel_rfl
theorem k_pat5 (ns : List Int) : ((PT 5).all fun q => okIs (p_p_is_pattern ns [.int (many 5 : Nat), ofPd q]) true) = true := by kernel_rfl
theorem k_pat (ns : List Int) : ∀ i, i < 6 → ((PT i).all fun q => okIs (p_p_is_pattern ns [.int (many i : Nat), ofPd q]) true) = true :=
  lt6 (k_pat0 ns) (k_pat1 ns) (k_pat2 ns) (k_pat3 ns) (k_pat4 ns) (k_pat5 ns)
theorem k_bad0 (ns : List Int) : ((BD 0).all fun q => okIs (p_p_is_pattern ns [.int (many 0 : Nat), ofPd q]) false) = true := by kernel_rfl
theorem k_bad1 (ns : List Int) : ((BD 1).all fun q => okIs (p_p_is_pattern ns [.int (many 1 : Nat), ofPd q]) false) = true := by kernel_rfl
theorem k_bad2 (ns : List Int) : ((BD 2).all fun q => okIs (p_p_is_pattern ns [.int (many 2 : Nat), ofPd q]) false) = true := by kernel_rfl
theorem k_bad3 (ns : List Int) : ((BD 3).all fun q => okIs (p_p_is_pattern ns [.int (many 3 : Nat), ofPd q]) false) = true := by kernel_rfl
theorem k_bad4 (ns : List Int) : ((BD 4).all fun q => okIs (p_p_is_pattern ns [.int (many 4 : Nat), ofPd q]) false) = true := by kernel_rfl
theorem k_bad5 (ns : List Int) : ((BD 5).all fun q => okIs (p_p_is_pattern ns [.int (many 5 : Nat), ofPd q]) false) = true := by kernel_rfl
theorem k_bad (ns : List Int) : ∀ i, i < 6 → ((BD i).all fun q => okIs (p_p_is_pattern ns [.int (many i : Nat), ofPd q]) false) = true :=
  lt6 (k_bad0 ns) (k_bad1 ns) (k_bad2 ns) (k_bad3 ns) (k_bad4 ns) (k_bad5 ns)
theorem k_str0  : ((FC 0).all fun f => match f with
    | .tuple [.str a, .str b, .str c] => SS.any (fun z => decide (z = a)) && SS.any (fun z => decide (z = b)) && SS.any (fun z => decide (z = c))
    | _ => false) = true := by kernel_rfl
theorem k_str1  : ((FC 1).all fun f => match f with
    | .tuple [.str a, .str b, .str c] => SS.any (fun z => decide (z = a)) && SS.any (fun z => decide (z = b)) && SS.any (fun z => decide (z = c))
    | _ => false) = true := by kernel_rfl
theorem k_str2  : ((FC 2).all fun f => match f with
    | .tuple [.str a, .str b, .str c] => SS.any (fun z => decide (z = a)) && SS.any (fun z => decide (z = b)) && SS.any (fun z => decide (z = c))
    | _ => false) = true := by kernel_rfl
theorem k_str3  : ((FC 3).all fun f => match f with
    | .tuple [.str a, .str b, .str c] => SS.any (fun z => decide (z = a)) && SS.any (fun z => decide (z = b)) && SS.any (fun z => decide (z = c))
    | _ => false) = true := by kernel_rfl
theorem k_str4  : ((FC 4).all fun f => match f with
    | .tuple [.str a, .str b, .str c] => SS.any (fun z => decide (z = a)) && SS.any (fun z => decide (z = b)) && SS.any (fun z => decide (z = c))
    | _ => false) = true := by kernel_rfl
theorem k_str5  : ((FC 5).all fun f => match f with
    | .tuple [.str a, .str b, .str c] => SS.any (fun z => decide (z = a)) && SS.any (fun z => decide (z = b)) && SS.any (fun z => decide (z = c))
    | _ => false) = true := by kernel_rfl
theorem k_str  : ∀ i, i < 6 → ((FC i).all fun f => match f with
    | .tuple [.str a, .str b, .str c] => SS.any (fun z => decide (z = a)) && SS.any (fun z => decide (z = b)) && SS.any (fun z => decide (z = c))
    | _ => false) = true :=
  lt6 (k_str0 ) (k_str1 ) (k_str2 ) (k_str3 ) (k_str4 ) (k_str5 )
theorem k_ls0  : ((Ls 0).all fun a => SS.any (fun z => decide (z = a))) = true := by kernel_rfl
theorem k_ls1  : ((Ls 1).all fun a => SS.any (fun z => decide (z = a))) = true := by kernel_rfl
theorem k_ls2  : ((Ls 2).all fun a => SS.any (fun z => decide (z = a))) = true := by kernel_rfl
theorem k_ls3  : ((Ls 3).all fun a => SS.any (fun z => decide (z = a))) = true := by kernel_rfl
theorem k_ls4  : ((Ls 4).all fun a => SS.any (fun z => decide (z = a))) = true := by kernel_rfl
theorem k_ls5  : ((Ls 5).all fun a => SS.any (fun z => decide (z = a))) = true := by kernel_rfl
theorem k_ls  : ∀ i, i < 6 → ((Ls i).all fun a => SS.any (fun z => decide (z = a))) = true :=
  lt6 (k_ls0 ) (k_ls1 ) (k_ls2 ) (k_ls3 ) (k_ls4 ) (k_ls5 )
end Law

set_option Elab.async false
set_option linter.all false
set_option maxRecDepth 1000000
set_option maxHeartbeats 0
namespace Law
open PySem PySem.Spec PyProof.Rows L2 Vm
/-! ### what a pattern keeps -/
def isG (f : PyData) : Bool := match f with
  | .tuple (.str w :: _) => decide (w = "near") || decide (w = "far")
  | _ => false
def ixS : List Str → Str → Nat
  | [], _ => 0
  | y :: l, x => if decide (y = x) then 0 else ixS l x + 1
def fnum (i : Nat) (l : List Str) (h : List Int) : Int := ((unl (l.map fun s => h.getD (ixS (Ls i) s) 0)).length : Nat)
def cmpW (w : Str) (k c : Int) : Bool := if decide (w = "most") || decide (w = "most groups") then decide (k ≤ c) else decide (k ≥ c)
abbrev kp (ns : List Int) (rec : List U → Mh → R U) (i : Nat) (p : PyData) (h g : PyData) : P0 := pfn 13 (m_p_kept_in ns rec) [SU i, ofPd p, .dat (.tuple [h, g])]
abbrev lk (ns : List Int) (rec : List U → Mh → R U) (i : Nat) (p : PyData) (h g : PyData) : P0 := pfn 8 (m_law_keeps ns rec) [SU i, ofPd p, .dat (.tuple [h, g])]
abbrev hl (ns : List Int) (i : Nat) (p : PyData) (h g : PyData) : Bool := same2 (p_p_holds ns [SU i, ofPd p, .dat (.tuple [h, g])]) (p_law_holds ns [SU i, .dat (.tuple [h, g]), ofPd p])
def IT (ws : List Str) (i : Nat) : List (Str × List Str × List Int) := ws.flatMap fun w => (CH i).flatMap fun l => (rowsN (many i)).map fun h => (w, l, h)
theorem k_fH0 (ns : List Int) (rec rec2 : List U → Mh → R U) (g : PyData) : (((FC 0).filter fun f => !isG f).all fun f => (rowsN (many 0)).all fun h => same2 (kp ns rec 0 f (encR h) g) (lk ns rec2 0 f (encR h) g) && hl ns 0 f (encR h) g) = true := by kernel_rfl
theorem k_fH1 (ns : List Int) (rec rec2 : List U → Mh → R U) (g : PyData) : (((FC 1).filter fun f => !isG f).all fun f => (rowsN (many 1)).all fun h => same2 (kp ns rec 1 f (encR h) g) (lk ns rec2 1 f (encR h) g) && hl ns 1 f (encR h) g) = true := by kernel_rfl
theorem k_fH2 (ns : List Int) (rec rec2 : List U → Mh → R U) (g : PyData) : (((FC 2).filter fun f => !isG f).all fun f => (rowsN (many 2)).all fun h => same2 (kp ns rec 2 f (encR h) g) (lk ns rec2 2 f (encR h) g) && hl ns 2 f (encR h) g) = true := by kernel_rfl
theorem k_fH3 (ns : List Int) (rec rec2 : List U → Mh → R U) (g : PyData) : (((FC 3).filter fun f => !isG f).all fun f => (rowsN (many 3)).all fun h => same2 (kp ns rec 3 f (encR h) g) (lk ns rec2 3 f (encR h) g) && hl ns 3 f (encR h) g) = true := by kernel_rfl
theorem k_fH4 (ns : List Int) (rec rec2 : List U → Mh → R U) (g : PyData) : (((FC 4).filter fun f => !isG f).all fun f => (rowsN (many 4)).all fun h => same2 (kp ns rec 4 f (encR h) g) (lk ns rec2 4 f (encR h) g) && hl ns 4 f (encR h) g) = true := by kernel_rfl
theorem k_fH5 (ns : List Int) (rec rec2 : List U → Mh → R U) (g : PyData) : (((FC 5).filter fun f => !isG f).all fun f => (rowsN (many 5)).all fun h => same2 (kp ns rec 5 f (encR h) g) (lk ns rec2 5 f (encR h) g) && hl ns 5 f (encR h) g) = true := by kernel_rfl
theorem k_fH (ns : List Int) (rec rec2 : List U → Mh → R U) (g : PyData) : ∀ i, i < 6 → (((FC i).filter fun f => !isG f).all fun f => (rowsN (many i)).all fun h => same2 (kp ns rec i f (encR h) g) (lk ns rec2 i f (encR h) g) && hl ns i f (encR h) g) = true :=
  lt6 (k_fH0 ns rec rec2 g) (k_fH1 ns rec rec2 g) (k_fH2 ns rec rec2 g) (k_fH3 ns rec rec2 g) (k_fH4 ns rec rec2 g) (k_fH5 ns rec rec2 g)
theorem k_fG0 (ns : List Int) (rec rec2 : List U → Mh → R U) (g : PyData) : (((FC 0).filter fun f => isG f).all fun f => (rowsN (many 0)).all fun h => same2 (kp ns rec 0 f g (encR h)) (lk ns rec2 0 f g (encR h)) && hl ns 0 f g (encR h)) = true := by kernel_rfl
theorem k_fG1 (ns : List Int) (rec rec2 : List U → Mh → R U) (g : PyData) : (((FC 1).filter fun f => isG f).all fun f => (rowsN (many 1)).all fun h => same2 (kp ns rec 1 f g (encR h)) (lk ns rec2 1 f g (encR h)) && hl ns 1 f g (encR h)) = true := by kernel_rfl
theorem k_fG2 (ns : List Int) (rec rec2 : List U → Mh → R U) (g : PyData) : (((FC 2).filter fun f => isG f).all fun f => (rowsN (many 2)).all fun h => same2 (kp ns rec 2 f g (encR h)) (lk ns rec2 2 f g (encR h)) && hl ns 2 f g (encR h)) = true := by kernel_rfl
theorem k_fG3 (ns : List Int) (rec rec2 : List U → Mh → R U) (g : PyData) : (((FC 3).filter fun f => isG f).all fun f => (rowsN (many 3)).all fun h => same2 (kp ns rec 3 f g (encR h)) (lk ns rec2 3 f g (encR h)) && hl ns 3 f g (encR h)) = true := by kernel_rfl
theorem k_fG4 (ns : List Int) (rec rec2 : List U → Mh → R U) (g : PyData) : (((FC 4).filter fun f => isG f).all fun f => (rowsN (many 4)).all fun h => same2 (kp ns rec 4 f g (encR h)) (lk ns rec2 4 f g (encR h)) && hl ns 4 f g (encR h)) = true := by kernel_rfl
theorem k_fG5 (ns : List Int) (rec rec2 : List U → Mh → R U) (g : PyData) : (((FC 5).filter fun f => isG f).all fun f => (rowsN (many 5)).all fun h => same2 (kp ns rec 5 f g (encR h)) (lk ns rec2 5 f g (encR h)) && hl ns 5 f g (encR h)) = true := by kernel_rfl
theorem k_fG (ns : List Int) (rec rec2 : List U → Mh → R U) (g : PyData) : ∀ i, i < 6 → (((FC i).filter fun f => isG f).all fun f => (rowsN (many i)).all fun h => same2 (kp ns rec i f g (encR h)) (lk ns rec2 i f g (encR h)) && hl ns i f g (encR h)) = true :=
  lt6 (k_fG0 ns rec rec2 g) (k_fG1 ns rec rec2 g) (k_fG2 ns rec rec2 g) (k_fG3 ns rec rec2 g) (k_fG4 ns rec rec2 g) (k_fG5 ns rec rec2 g)
theorem k_each0 (ns : List Int) (rec rec2 : List U → Mh → R U) (g : PyData) : ((CH 0).all fun l => (rowsN (many 0)).all fun h => [0, 1, 2, 3].all fun (c : Int) => same2 (kp ns rec 0 (cnt "each" l c) (encR h) g) (lk ns rec2 0 (cnt "each" l c) (encR h) g)) = true := by kernel_rfl
theorem k_each1 (ns : List Int) (rec rec2 : List U → Mh → R U) (g : PyData) : ((CH 1).all fun l => (rowsN (many 1)).all fun h => [0, 1, 2, 3].all fun (c : Int) => same2 (kp ns rec 1 (cnt "each" l c) (encR h) g) (lk ns rec2 1 (cnt "each" l c) (encR h) g)) = true := by kernel_rfl
theorem k_each2 (ns : List Int) (rec rec2 : List U → Mh → R U) (g : PyData) : ((CH 2).all fun l => (rowsN (many 2)).all fun h => [0, 1, 2, 3].all fun (c : Int) => same2 (kp ns rec 2 (cnt "each" l c) (encR h) g) (lk ns rec2 2 (cnt "each" l c) (encR h) g)) = true := by kernel_rfl
theorem k_each3 (ns : List Int) (rec rec2 : List U → Mh → R U) (g : PyData) : ((CH 3).all fun l => (rowsN (many 3)).all fun h => [0, 1, 2, 3].all fun (c : Int) => same2 (kp ns rec 3 (cnt "each" l c) (encR h) g) (lk ns rec2 3 (cnt "each" l c) (encR h) g)) = true := by kernel_rfl
theorem k_each4 (ns : List Int) (rec rec2 : List U → Mh → R U) (g : PyData) : ((CH 4).all fun l => (rowsN (many 4)).all fun h => [0, 1, 2, 3].all fun (c : Int) => same2 (kp ns rec 4 (cnt "each" l c) (encR h) g) (lk ns rec2 4 (cnt "each" l c) (encR h) g)) = true := by kernel_rfl
theorem k_each5 (ns : List Int) (rec rec2 : List U → Mh → R U) (g : PyData) : ((CH 5).all fun l => (rowsN (many 5)).all fun h => [0, 1, 2, 3].all fun (c : Int) => same2 (kp ns rec 5 (cnt "each" l c) (encR h) g) (lk ns rec2 5 (cnt "each" l c) (encR h) g)) = true := by kernel_rfl
theorem k_each (ns : List Int) (rec rec2 : List U → Mh → R U) (g : PyData) : ∀ i, i < 6 → ((CH i).all fun l => (rowsN (many i)).all fun h => [0, 1, 2, 3].all fun (c : Int) => same2 (kp ns rec i (cnt "each" l c) (encR h) g) (lk ns rec2 i (cnt "each" l c) (encR h) g)) = true :=
  lt6 (k_each0 ns rec rec2 g) (k_each1 ns rec rec2 g) (k_each2 ns rec rec2 g) (k_each3 ns rec rec2 g) (k_each4 ns rec rec2 g) (k_each5 ns rec rec2 g)
theorem k_mH0 (ns : List Int) (rec : List U → Mh → R U) (g : PyData) (c : Int) : mapA (fun x => kp ns rec 0 (cnt x.1 x.2.1 c) (encR x.2.2) g) (IT wordsL 0) = (IT wordsL 0).map fun x => .ok (.bl (cmpW x.1 (fnum 0 x.2.1 x.2.2) c)) := by kernel_rfl
theorem k_mH1 (ns : List Int) (rec : List U → Mh → R U) (g : PyData) (c : Int) : mapA (fun x => kp ns rec 1 (cnt x.1 x.2.1 c) (encR x.2.2) g) (IT wordsL 1) = (IT wordsL 1).map fun x => .ok (.bl (cmpW x.1 (fnum 1 x.2.1 x.2.2) c)) := by kernel_rfl
theorem k_mH2 (ns : List Int) (rec : List U → Mh → R U) (g : PyData) (c : Int) : mapA (fun x => kp ns rec 2 (cnt x.1 x.2.1 c) (encR x.2.2) g) (IT wordsL 2) = (IT wordsL 2).map fun x => .ok (.bl (cmpW x.1 (fnum 2 x.2.1 x.2.2) c)) := by kernel_rfl
theorem k_mH3 (ns : List Int) (rec : List U → Mh → R U) (g : PyData) (c : Int) : mapA (fun x => kp ns rec 3 (cnt x.1 x.2.1 c) (encR x.2.2) g) (IT wordsL 3) = (IT wordsL 3).map fun x => .ok (.bl (cmpW x.1 (fnum 3 x.2.1 x.2.2) c)) := by kernel_rfl
theorem k_mH4 (ns : List Int) (rec : List U → Mh → R U) (g : PyData) (c : Int) : mapA (fun x => kp ns rec 4 (cnt x.1 x.2.1 c) (encR x.2.2) g) (IT wordsL 4) = (IT wordsL 4).map fun x => .ok (.bl (cmpW x.1 (fnum 4 x.2.1 x.2.2) c)) := by kernel_rfl
theorem k_mH5 (ns : List Int) (rec : List U → Mh → R U) (g : PyData) (c : Int) : mapA (fun x => kp ns rec 5 (cnt x.1 x.2.1 c) (encR x.2.2) g) (IT wordsL 5) = (IT wordsL 5).map fun x => .ok (.bl (cmpW x.1 (fnum 5 x.2.1 x.2.2) c)) := by kernel_rfl
theorem k_mH (ns : List Int) (rec : List U → Mh → R U) (g : PyData) (c : Int) : ∀ i, i < 6 → mapA (fun x => kp ns rec i (cnt x.1 x.2.1 c) (encR x.2.2) g) (IT wordsL i) = (IT wordsL i).map fun x => .ok (.bl (cmpW x.1 (fnum i x.2.1 x.2.2) c)) :=
  lt6 (k_mH0 ns rec g c) (k_mH1 ns rec g c) (k_mH2 ns rec g c) (k_mH3 ns rec g c) (k_mH4 ns rec g c) (k_mH5 ns rec g c)
theorem k_lH0 (ns : List Int) (rec : List U → Mh → R U) (g : PyData) (c : Int) : mapA (fun x => lk ns rec 0 (cnt x.1 x.2.1 c) (encR x.2.2) g) (IT wordsL 0) = (IT wordsL 0).map fun x => .ok (.bl (cmpW x.1 (fnum 0 x.2.1 x.2.2) c)) := by kernel_rfl
theorem k_lH1 (ns : List Int) (rec : List U → Mh → R U) (g : PyData) (c : Int) : mapA (fun x => lk ns rec 1 (cnt x.1 x.2.1 c) (encR x.2.2) g) (IT wordsL 1) = (IT wordsL 1).map fun x => .ok (.bl (cmpW x.1 (fnum 1 x.2.1 x.2.2) c)) := by kernel_rfl
theorem k_lH2 (ns : List Int) (rec : List U → Mh → R U) (g : PyData) (c : Int) : mapA (fun x => lk ns rec 2 (cnt x.1 x.2.1 c) (encR x.2.2) g) (IT wordsL 2) = (IT wordsL 2).map fun x => .ok (.bl (cmpW x.1 (fnum 2 x.2.1 x.2.2) c)) := by kernel_rfl
theorem k_lH3 (ns : List Int) (rec : List U → Mh → R U) (g : PyData) (c : Int) : mapA (fun x => lk ns rec 3 (cnt x.1 x.2.1 c) (encR x.2.2) g) (IT wordsL 3) = (IT wordsL 3).map fun x => .ok (.bl (cmpW x.1 (fnum 3 x.2.1 x.2.2) c)) := by kernel_rfl
theorem k_lH4 (ns : List Int) (rec : List U → Mh → R U) (g : PyData) (c : Int) : mapA (fun x => lk ns rec 4 (cnt x.1 x.2.1 c) (encR x.2.2) g) (IT wordsL 4) = (IT wordsL 4).map fun x => .ok (.bl (cmpW x.1 (fnum 4 x.2.1 x.2.2) c)) := by kernel_rfl
theorem k_lH5 (ns : List Int) (rec : List U → Mh → R U) (g : PyData) (c : Int) : mapA (fun x => lk ns rec 5 (cnt x.1 x.2.1 c) (encR x.2.2) g) (IT wordsL 5) = (IT wordsL 5).map fun x => .ok (.bl (cmpW x.1 (fnum 5 x.2.1 x.2.2) c)) := by kernel_rfl
theorem k_lH (ns : List Int) (rec : List U → Mh → R U) (g : PyData) (c : Int) : ∀ i, i < 6 → mapA (fun x => lk ns rec i (cnt x.1 x.2.1 c) (encR x.2.2) g) (IT wordsL i) = (IT wordsL i).map fun x => .ok (.bl (cmpW x.1 (fnum i x.2.1 x.2.2) c)) :=
  lt6 (k_lH0 ns rec g c) (k_lH1 ns rec g c) (k_lH2 ns rec g c) (k_lH3 ns rec g c) (k_lH4 ns rec g c) (k_lH5 ns rec g c)
theorem k_mG0 (ns : List Int) (rec : List U → Mh → R U) (g : PyData) (c : Int) : mapA (fun x => kp ns rec 0 (cnt x.1 x.2.1 c) g (encR x.2.2)) (IT wordsG 0) = (IT wordsG 0).map fun x => .ok (.bl (cmpW x.1 (fnum 0 x.2.1 x.2.2) c)) := by kernel_rfl
theorem k_mG1 (ns : List Int) (rec : List U → Mh → R U) (g : PyData) (c : Int) : mapA (fun x => kp ns rec 1 (cnt x.1 x.2.1 c) g (encR x.2.2)) (IT wordsG 1) = (IT wordsG 1).map fun x => .ok (.bl (cmpW x.1 (fnum 1 x.2.1 x.2.2) c)) := by kernel_rfl
theorem k_mG2 (ns : List Int) (rec : List U → Mh → R U) (g : PyData) (c : Int) : mapA (fun x => kp ns rec 2 (cnt x.1 x.2.1 c) g (encR x.2.2)) (IT wordsG 2) = (IT wordsG 2).map fun x => .ok (.bl (cmpW x.1 (fnum 2 x.2.1 x.2.2) c)) := by kernel_rfl
theorem k_mG3 (ns : List Int) (rec : List U → Mh → R U) (g : PyData) (c : Int) : mapA (fun x => kp ns rec 3 (cnt x.1 x.2.1 c) g (encR x.2.2)) (IT wordsG 3) = (IT wordsG 3).map fun x => .ok (.bl (cmpW x.1 (fnum 3 x.2.1 x.2.2) c)) := by kernel_rfl
theorem k_mG4 (ns : List Int) (rec : List U → Mh → R U) (g : PyData) (c : Int) : mapA (fun x => kp ns rec 4 (cnt x.1 x.2.1 c) g (encR x.2.2)) (IT wordsG 4) = (IT wordsG 4).map fun x => .ok (.bl (cmpW x.1 (fnum 4 x.2.1 x.2.2) c)) := by kernel_rfl
theorem k_mG5 (ns : List Int) (rec : List U → Mh → R U) (g : PyData) (c : Int) : mapA (fun x => kp ns rec 5 (cnt x.1 x.2.1 c) g (encR x.2.2)) (IT wordsG 5) = (IT wordsG 5).map fun x => .ok (.bl (cmpW x.1 (fnum 5 x.2.1 x.2.2) c)) := by kernel_rfl
theorem k_mG (ns : List Int) (rec : List U → Mh → R U) (g : PyData) (c : Int) : ∀ i, i < 6 → mapA (fun x => kp ns rec i (cnt x.1 x.2.1 c) g (encR x.2.2)) (IT wordsG i) = (IT wordsG i).map fun x => .ok (.bl (cmpW x.1 (fnum i x.2.1 x.2.2) c)) :=
  lt6 (k_mG0 ns rec g c) (k_mG1 ns rec g c) (k_mG2 ns rec g c) (k_mG3 ns rec g c) (k_mG4 ns rec g c) (k_mG5 ns rec g c)
theorem k_lG0 (ns : List Int) (rec : List U → Mh → R U) (g : PyData) (c : Int) : mapA (fun x => lk ns rec 0 (cnt x.1 x.2.1 c) g (encR x.2.2)) (IT wordsG 0) = (IT wordsG 0).map fun x => .ok (.bl (cmpW x.1 (fnum 0 x.2.1 x.2.2) c)) := by kernel_rfl
theorem k_lG1 (ns : List Int) (rec : List U → Mh → R U) (g : PyData) (c : Int) : mapA (fun x => lk ns rec 1 (cnt x.1 x.2.1 c) g (encR x.2.2)) (IT wordsG 1) = (IT wordsG 1).map fun x => .ok (.bl (cmpW x.1 (fnum 1 x.2.1 x.2.2) c)) := by kernel_rfl
theorem k_lG2 (ns : List Int) (rec : List U → Mh → R U) (g : PyData) (c : Int) : mapA (fun x => lk ns rec 2 (cnt x.1 x.2.1 c) g (encR x.2.2)) (IT wordsG 2) = (IT wordsG 2).map fun x => .ok (.bl (cmpW x.1 (fnum 2 x.2.1 x.2.2) c)) := by kernel_rfl
theorem k_lG3 (ns : List Int) (rec : List U → Mh → R U) (g : PyData) (c : Int) : mapA (fun x => lk ns rec 3 (cnt x.1 x.2.1 c) g (encR x.2.2)) (IT wordsG 3) = (IT wordsG 3).map fun x => .ok (.bl (cmpW x.1 (fnum 3 x.2.1 x.2.2) c)) := by kernel_rfl
theorem k_lG4 (ns : List Int) (rec : List U → Mh → R U) (g : PyData) (c : Int) : mapA (fun x => lk ns rec 4 (cnt x.1 x.2.1 c) g (encR x.2.2)) (IT wordsG 4) = (IT wordsG 4).map fun x => .ok (.bl (cmpW x.1 (fnum 4 x.2.1 x.2.2) c)) := by kernel_rfl
theorem k_lG5 (ns : List Int) (rec : List U → Mh → R U) (g : PyData) (c : Int) : mapA (fun x => lk ns rec 5 (cnt x.1 x.2.1 c) g (encR x.2.2)) (IT wordsG 5) = (IT wordsG 5).map fun x => .ok (.bl (cmpW x.1 (fnum 5 x.2.1 x.2.2) c)) := by kernel_rfl
theorem k_lG (ns : List Int) (rec : List U → Mh → R U) (g : PyData) (c : Int) : ∀ i, i < 6 → mapA (fun x => lk ns rec i (cnt x.1 x.2.1 c) g (encR x.2.2)) (IT wordsG i) = (IT wordsG i).map fun x => .ok (.bl (cmpW x.1 (fnum i x.2.1 x.2.2) c)) :=
  lt6 (k_lG0 ns rec g c) (k_lG1 ns rec g c) (k_lG2 ns rec g c) (k_lG3 ns rec g c) (k_lG4 ns rec g c) (k_lG5 ns rec g c)
end Law

set_option Elab.async false
set_option linter.all false
set_option maxRecDepth 1000000
set_option maxHeartbeats 0
namespace Law
open PySem PySem.Spec PyProof.Rows L2 Vm
/-! ### values that are no rules -/
structure NR (i : Nat) (v : PyData) : Prop where
  pl : ∀ ns, p_is_plain_rule ns [SU i, ofPd v] = .ok (.bl false)
  ru : ∀ ns, p_p_is_rule ns [SU i, ofPd v] = .ok (.bl false)
  lw : ∀ ns rec d, pfn 6 (m_law_is ns rec) [SU i, ofPd v, .bl d] = .ok (.bl false)
theorem nr_of {i : Nat} {v : PyData} (h : ∀ ns rec d, nrB ns rec d i v = true) : NR i v := by
  have k : ∀ ns rec d, p_is_plain_rule ns [SU i, ofPd v] = .ok (.bl false) ∧ p_p_is_rule ns [SU i, ofPd v] = .ok (.bl false) ∧ pfn 6 (m_law_is ns rec) [SU i, ofPd v, .bl d] = .ok (.bl false) := fun ns rec d => by
    have := h ns rec d
    unfold nrB at this
    rw [Bool.and_eq_true, Bool.and_eq_true] at this
    exact ⟨okIs_eq this.1.1, okIs_eq this.1.2, okIs_eq this.2⟩
  exact ⟨fun ns => (k ns (fun _ _ => .stuck) true).1, fun ns => (k ns (fun _ _ => .stuck) true).2.1, fun ns rec d => (k ns rec d).2.2⟩
section
variable (i : Nat) (a b c e : PyData)
theorem nr_t1 : NR i (.tuple [a]) := ⟨fun ns => by kernel_rfl, fun ns => by kernel_rfl, fun ns rec d => by kernel_rfl⟩
theorem nr_t2 : NR i (.tuple [a, b]) := ⟨fun ns => by kernel_rfl, fun ns => by kernel_rfl, fun ns rec d => by kernel_rfl⟩
theorem nr_t4 : NR i (.tuple [a, b, c, e]) := ⟨fun ns => by kernel_rfl, fun ns => by kernel_rfl, fun ns rec d => by kernel_rfl⟩
theorem nr_list (l : List PyData) : NR i (.list l) := ⟨fun ns => by kernel_rfl, fun ns => by kernel_rfl, fun ns rec d => by kernel_rfl⟩
theorem nr_ifnone : NR i (ifR .none b) := ⟨fun ns => by kernel_rfl, fun ns => by kernel_rfl, fun ns rec d => by kernel_rfl⟩
theorem if_plain (ns : List Int) : p_is_plain_rule ns [SU i, .dat (ifR a b)] = .ok (.bl false) := by kernel_rfl
theorem if_nofact (ns : List Int) : p_p_is_fact ns [SU i, .dat (ifR a b)] = .ok (.bl false) := by kernel_rfl
theorem is_rule_if (ns : List Int) : p_p_is_rule ns [SU i, .dat (ifR a b)] = toP (sRet (mAndV (fun _ h => d_p_is_fact ns [SU i, ofPd a] h) (fun _ h => d_is_plain_rule ns [SU i, ofPd b] h)) (slotsOf 2 [SU i, .dat (ifR a b)]) []) := by kernel_rfl
end
theorem and2 {A B : Me} {S : Sl} {a b : Bool} (ha : A S [] = .ok (.bl a) []) (hb : a = true → B S [] = .ok (.bl b) []) : toP (sRet (mAndV A B) S []) = .ok (.bl (a && b)) := by
  show toP (R.bindS ((A S []).bind _) S _) = _
  rw [ha]
  cases a with
  | false => rfl
  | true =>
    show toP (R.bindS (B S []) S _) = _
    rw [hb rfl]
    rfl
theorem or2 {A B : Me} {S : Sl} {a b : Bool} (ha : A S [] = .ok (.bl a) []) (hb : a = true → B S [] = .ok (.bl b) []) : toP (sRet (mOrV (mNotV A) B) S []) = .ok (.bl (!a || (a && b))) := by
  show toP (R.bindS (((A S []).bind _).bind _) S _) = _
  rw [ha]
  cases a with
  | false => rfl
  | true =>
    show toP (R.bindS (B S []) S _) = _
    rw [hb rfl]
    rfl
theorem ret1 {A : Me} {S : Sl} {b : Bool} (ha : A S [] = .ok (.bl b) []) : toP (sRet A S []) = .ok (.bl b) := by
  show toP (R.bindS (A S []) S _) = _
  rw [ha]
  rfl
/-- x is no fact, by both looks -/
structure BF (i : Nat) (x : PyData) : Prop where
  fa : ∀ ns, p_p_is_fact ns [SU i, ofPd x] = .ok (.bl false)
  lw : ∀ ns rec d y, pfn 6 (m_law_is ns rec) [SU i, .dat (ifR x y), .bl d] = .ok (.bl false)
theorem BF.nr {i : Nat} {x : PyData} (h : BF i x) (y : PyData) : NR i (ifR x y) :=
  ⟨fun ns => if_plain i x y ns, fun ns => by
    show p_p_is_rule ns [SU i, .dat (ifR x y)] = _
    rw [is_rule_if]
    exact and2 (a := false) (b := false) (runP_ok (h.fa ns) []) (fun z => nomatch z), fun ns rec d => h.lw ns rec d y⟩
theorem bf_cnt {i : Nat} (hi : i < 6) {w : Str} (hw : w ∈ words) {l : List Str} (hl : l ∈ CH i) (c : Int) : BF i (cnt w l c) := by
  have k := fun ns rec d y => List.all_eq_true.mp (List.all_eq_true.mp (k_nofact ns rec c d y i hi) w hw) l hl
  have k : ∀ ns rec d y, p_p_is_fact ns [SU i, .dat (cnt w l c)] = .ok (.bl false) ∧ pfn 6 (m_law_is ns rec) [SU i, .dat (ifR (cnt w l c) y), .bl d] = .ok (.bl false) := fun ns rec d y => by
    have := k ns rec d y
    rw [Bool.and_eq_true] at this
    exact ⟨okIs_eq this.1, okIs_eq this.2⟩
  exact ⟨fun ns => (k ns (fun _ _ => .stuck) true .none).1, fun ns rec d y => (k ns rec d y).2⟩
theorem bf_if {i : Nat} {lf lp : List PyData} (sf : SeqAt.shaped (.tuple lf) = true) (sp : SeqAt.shaped (.tuple lp) = true) (sl : SeqAt.shaped (.list [.tuple lf, .tuple lp]) = true) : BF i (ifR (.tuple lf) (.tuple lp)) := by
  refine ⟨fun ns => if_nofact i _ _ ns, fun ns rec d y => ?_⟩
  let S : Sl := [some (SU i), some (.dat (ifR (ifR (.tuple lf) (.tuple lp)) y)), some (.bl d), some (.dat (ifR (.tuple lf) (.tuple lp))), none, none]
  have ne : fNe (.dat (.list [.tuple lf, .tuple lp])) (.dat (.list [])) [] = .ok (.bl true) [] := by
    have e2 : SeqAt.shaped (.list []) = true := rfl
    unfold fNe fEqB
    rw [rd_dat, rd_dat]
    simp only [sl, e2, Bool.and_self, if_true]
    rfl
  have lc : mLcF (wSeq (mV 3)) (gtN 4) (bNot (bT (m1 (fIsi "str") (mV 4)))) (mV 4) [4] S [] = .ok (.dat (.list [.tuple lf, .tuple lp])) [] := by kernel_rfl
  have e : pfn 6 (m_law_is ns rec) [SU i, .dat (ifR (ifR (.tuple lf) (.tuple lp)) y), .bl d] = toP (sSeq (sSeq (sIf (bOr (bNot (bT (m1 (fIsi "tuple") (mV 3)))) (bV (m2 fNe (mLcF (wSeq (mV 3)) (gtN 4) (bNot (bT (m1 (fIsi "str") (mV 4)))) (mV 4) [4]) (mLd (lN))))) (sRet (mC (.bl false))) sPass) (sRet (mAndV (mV 2) (mAndV (m2 fIn (mV 3) (mCall (d_law_facts ns)  (lC (mV 0) (lN)))) (mCall rec  (lC (mV 0) (lC (m2 (fIxD ns) (mV 1) (mC (.int 2))) (lC (mC (.bl false)) (lN)))))))))
    (sSeq (sIf (bOr (bV (m2 fNotIn (m2 (fIxD ns) (mV 1) (mC (.int 0))) (mTd (lC (mC (.str "most")) (lC (mC (.str "least")) (lC (mC (.str "each")) (lC (mC (.str "most groups")) (lC (mC (.str "least groups")) (lN))))))))) (bNot (bT (m1 (fIsi "tuple") (m2 (fIxD ns) (mV 1) (mC (.int 1))))))) (sRet (mC (.bl false))) (sPass))
    (sSeq (sIf (bOr (bV (m2 fNe (mLcF (wSeq (m2 (fIxD ns) (mV 1) (mC (.int 1)))) (gtN 4) (bNot (bT (m1 (fIsi "str") (mV 4)))) (mV 4) [4]) (mLd (lN)))) (bV (m2 fEq (m2 (fIxD ns) (mV 1) (mC (.int 1))) (mTd (lN))))) (sRet (mC (.bl false))) (sPass))
    (sRet (mAndV (m2 fEq (m2 (fIxD ns) (mV 1) (mC (.int 1))) (mBt (fTupD) (lC (mLcF (wSeq (mV 0)) (gtN 5) (bV (m2 fIn (mV 5) (m2 (fIxD ns) (mV 1) (mC (.int 1))))) (mV 5) [5]) (lN)))) (mCall (d_law_within ns)  (lC (m2 (fIxD ns) (mV 1) (mC (.int 2))) (lC (mC (.int 0)) (lC (mC (.int 6)) (lN))))))))) S []) := by kernel_rfl
  rw [e]
  have c : bV (m2 fNe (mLcF (wSeq (mV 3)) (gtN 4) (bNot (bT (m1 (fIsi "str") (mV 4)))) (mV 4) [4]) (mLd (lN))) S [] = .ok true [] := by
    simp only [bV, m2, lc, R.bind]
    show ((R.ok (U.dat (.list [])) ([] : Mh)).bind fun y h2 => fNe (.dat (.list [.tuple lf, .tuple lp])) y h2).bind asB = _
    simp only [R.bind, ne, asB]
  have t : bNot (bT (m1 (fIsi "tuple") (mV 3))) S [] = .ok false [] := by kernel_rfl
  have st : sIf (bOr (bNot (bT (m1 (fIsi "tuple") (mV 3)))) (bV (m2 fNe (mLcF (wSeq (mV 3)) (gtN 4) (bNot (bT (m1 (fIsi "str") (mV 4)))) (mV 4) [4]) (mLd (lN))))) (sRet (mC (.bl false))) sPass S [] = .rt (.bl false) [] := by
    simp only [sIf, bOr, t, c, R.bind, R.bindS]
    rfl
  simp only [sSeq, st]
  rfl
end Law

set_option Elab.async false
set_option linter.all false
set_option maxRecDepth 1000000
set_option maxHeartbeats 0
namespace Law
open PySem PySem.Spec PyProof.Rows L2 Vm
/-! ### rules with an if; what is looked at -/
def restL (ns : List Int) : Ms := sSeq (sIf (bOr (bV (m2 fNotIn (m2 (fIxD ns) (mV 1) (mC (.int 0))) (mTd (lC (mC (.str "most")) (lC (mC (.str "least")) (lC (mC (.str "each")) (lC (mC (.str "most groups")) (lC (mC (.str "least groups")) (lN))))))))) (bNot (bT (m1 (fIsi "tuple") (m2 (fIxD ns) (mV 1) (mC (.int 1))))))) (sRet (mC (.bl false))) (sPass))
    (sSeq (sIf (bOr (bV (m2 fNe (mLcF (wSeq (m2 (fIxD ns) (mV 1) (mC (.int 1)))) (gtN 4) (bNot (bT (m1 (fIsi "str") (mV 4)))) (mV 4) [4]) (mLd (lN)))) (bV (m2 fEq (m2 (fIxD ns) (mV 1) (mC (.int 1))) (mTd (lN))))) (sRet (mC (.bl false))) (sPass))
    (sRet (mAndV (m2 fEq (m2 (fIxD ns) (mV 1) (mC (.int 1))) (mBt (fTupD) (lC (mLcF (wSeq (mV 0)) (gtN 5) (bV (m2 fIn (mV 5) (m2 (fIxD ns) (mV 1) (mC (.int 1))))) (mV 5) [5]) (lN)))) (mCall (d_law_within ns)  (lC (m2 (fIxD ns) (mV 1) (mC (.int 2))) (lC (mC (.int 0)) (lC (mC (.int 6)) (lN))))))))
abbrev lawIf (ns : List Int) (rec : List U → Mh → R U) (i : Nat) (x y : PyData) : P0 := toP (sSeq (sRet (fun _ h => rec [SU i, ofPd y, .bl false] h)) (restL ns) [some (SU i), some (.dat (ifR x y)), some (.bl true), some (ofPd x), none, none] [])
theorem ret2 {A : Me} {B : Ms} {S : Sl} {b : Bool} (ha : A S [] = .ok (.bl b) []) : toP (sSeq (sRet A) B S []) = .ok (.bl b) := by
  have e : sRet A S [] = .rt (.bl b) [] := by simp only [sRet, ha, R.bindS]
  rw [sSeq, e]
  rfl
theorem k_law0 (ns : List Int) (rec : List U → Mh → R U) (y : PyData) : mapA (fun x => pfn 6 (m_law_is ns rec) [SU 0, .dat (ifR x y), .bl true]) (FX 0) = (FX 0).map fun x => lawIf ns rec 0 x y := by kernel_rfl
theorem k_law1 (ns : List Int) (rec : List U → Mh → R U) (y : PyData) : mapA (fun x => pfn 6 (m_law_is ns rec) [SU 1, .dat (ifR x y), .bl true]) (FX 1) = (FX 1).map fun x => lawIf ns rec 1 x y := by kernel_rfl
theorem k_law2 (ns : List Int) (rec : List U → Mh → R U) (y : PyData) : mapA (fun x => pfn 6 (m_law_is ns rec) [SU 2, .dat (ifR x y), .bl true]) (FX 2) = (FX 2).map fun x => lawIf ns rec 2 x y := by kernel_rfl
theorem k_law3 (ns : List Int) (rec : List U → Mh → R U) (y : PyData) : mapA (fun x => pfn 6 (m_law_is ns rec) [SU 3, .dat (ifR x y), .bl true]) (FX 3) = (FX 3).map fun x => lawIf ns rec 3 x y := by kernel_rfl
theorem k_law4 (ns : List Int) (rec : List U → Mh → R U) (y : PyData) : mapA (fun x => pfn 6 (m_law_is ns rec) [SU 4, .dat (ifR x y), .bl true]) (FX 4) = (FX 4).map fun x => lawIf ns rec 4 x y := by kernel_rfl
theorem k_law5 (ns : List Int) (rec : List U → Mh → R U) (y : PyData) : pfn 6 (m_law_is ns rec) [SU 5, .dat (ifR (sm 5) y), .bl true] = .ok (.bl false) := by kernel_rfl
theorem fc5 : FC 5 = [] := by kernel_rfl
theorem k_deep0 (ns : List Int) (rec : List U → Mh → R U) (y : PyData) : ((FC 0).all fun x => okIs (pfn 6 (m_law_is ns rec) [SU 0, .dat (ifR x y), .bl false]) false) = true := by kernel_rfl
theorem k_deep1 (ns : List Int) (rec : List U → Mh → R U) (y : PyData) : ((FC 1).all fun x => okIs (pfn 6 (m_law_is ns rec) [SU 1, .dat (ifR x y), .bl false]) false) = true := by kernel_rfl
theorem k_deep2 (ns : List Int) (rec : List U → Mh → R U) (y : PyData) : ((FC 2).all fun x => okIs (pfn 6 (m_law_is ns rec) [SU 2, .dat (ifR x y), .bl false]) false) = true := by kernel_rfl
theorem k_deep3 (ns : List Int) (rec : List U → Mh → R U) (y : PyData) : ((FC 3).all fun x => okIs (pfn 6 (m_law_is ns rec) [SU 3, .dat (ifR x y), .bl false]) false) = true := by kernel_rfl
theorem k_deep4 (ns : List Int) (rec : List U → Mh → R U) (y : PyData) : ((FC 4).all fun x => okIs (pfn 6 (m_law_is ns rec) [SU 4, .dat (ifR x y), .bl false]) false) = true := by kernel_rfl
theorem k_deep5 (ns : List Int) (rec : List U → Mh → R U) (y : PyData) : ((FC 5).all fun x => okIs (pfn 6 (m_law_is ns rec) [SU 5, .dat (ifR x y), .bl false]) false) = true := by kernel_rfl
theorem k_deep (ns : List Int) (rec : List U → Mh → R U) (y : PyData) : ∀ i, i < 6 → ((FC i).all fun x => okIs (pfn 6 (m_law_is ns rec) [SU i, .dat (ifR x y), .bl false]) false) = true :=
  lt6 (k_deep0 ns rec y) (k_deep1 ns rec y) (k_deep2 ns rec y) (k_deep3 ns rec y) (k_deep4 ns rec y) (k_deep5 ns rec y)
def fwords : List Str := ["same", "unlike", "near", "far"]
theorem k_fw0 : ((FC 0).all fun f => match f with
    | .tuple [.str a, .str _, .str _] => fwords.any fun z => decide (z = a)
    | _ => false) = true := by kernel_rfl
theorem k_fw1 : ((FC 1).all fun f => match f with
    | .tuple [.str a, .str _, .str _] => fwords.any fun z => decide (z = a)
    | _ => false) = true := by kernel_rfl
theorem k_fw2 : ((FC 2).all fun f => match f with
    | .tuple [.str a, .str _, .str _] => fwords.any fun z => decide (z = a)
    | _ => false) = true := by kernel_rfl
theorem k_fw3 : ((FC 3).all fun f => match f with
    | .tuple [.str a, .str _, .str _] => fwords.any fun z => decide (z = a)
    | _ => false) = true := by kernel_rfl
theorem k_fw4 : ((FC 4).all fun f => match f with
    | .tuple [.str a, .str _, .str _] => fwords.any fun z => decide (z = a)
    | _ => false) = true := by kernel_rfl
theorem k_fw5 : ((FC 5).all fun f => match f with
    | .tuple [.str a, .str _, .str _] => fwords.any fun z => decide (z = a)
    | _ => false) = true := by kernel_rfl
theorem fact_form {i : Nat} (hi : i < 6) {f : PyData} (hf : f ∈ FC i) : ∃ a b c, f = .tuple [.str a, .str b, .str c] ∧ a ∈ fwords := by
  have k : ∀ i, i < 6 → ((FC i).all fun f => match f with
    | .tuple [.str a, .str _, .str _] => fwords.any fun z => decide (z = a)
    | _ => false) = true := lt6 k_fw0 k_fw1 k_fw2 k_fw3 k_fw4 k_fw5
  have h := List.all_eq_true.mp (k i hi) f hf
  split at h
  · rename_i a b c
    obtain ⟨z, hz, e⟩ := List.any_eq_true.mp h
    have e := of_decide_eq_true e
    subst e
    exact ⟨_, _, _, rfl, hz⟩
  · cases h
def restR (ns : List Int) : Ms := sRet (mAndV (mCall (d_p_is_fact ns)  (lC (mV 0) (lC (m2 (fIxD ns) (mV 1) (mC (.int 1))) (lN)))) (mCall (d_is_plain_rule ns)  (lC (mV 0) (lC (m2 (fIxD ns) (mV 1) (mC (.int 2))) (lN)))))
theorem noif (ns : List Int) (i : Nat) (a b : PyData) : mapA (fun w => p_p_is_rule ns [SU i, .dat (.tuple [.str w, a, b])]) (fwords ++ words) = (fwords ++ words).map fun w => toP (sSeq (sRet (fun _ h => d_is_plain_rule ns [SU i, .dat (.tuple [.str w, a, b])] h)) (restR ns) (slotsOf 2 [SU i, .dat (.tuple [.str w, a, b])]) []) := by kernel_rfl
def VB (ns : List Int) (i : Nat) (v : PyData) (b : Bool) : Prop := p_p_is_rule ns [SU i, ofPd v] = .ok (.bl b) ∧ p_law_is ns [SU i, ofPd v, .bl true] = .ok (.bl b)
def PB (ns : List Int) (i : Nat) (v : PyData) (b : Bool) : Prop := p_is_plain_rule ns [SU i, ofPd v] = .ok (.bl b) ∧ r_law_is ns 1 [SU i, ofPd v, .bl false] = .ok (.bl b)
section
variable {ns : List Int}
theorem NR.vb {i : Nat} {v : PyData} (h : NR i v) : VB ns i v false := ⟨h.ru ns, h.lw ns _ true⟩
theorem NR.pb {i : Nat} {v : PyData} (h : NR i v) : PB ns i v false := ⟨h.pl ns, h.lw ns _ false⟩
end
theorem pl_form {i : Nat} {p : PyData} (hp : p ∈ CN i) : ∃ w ∈ words, ∃ l ∈ CH i, ∃ c ∈ ([0, 1, 2, 3] : List Int), p = cnt w l c := by
  unfold CN at hp
  obtain ⟨w, hw, hp⟩ := List.mem_flatMap.mp hp
  obtain ⟨l, hl, hp⟩ := List.mem_flatMap.mp hp
  obtain ⟨c, hc, rfl⟩ := List.mem_map.mp hp
  exact ⟨w, hw, l, hl, c, hc, rfl⟩
theorem cn_of {i : Nat} {w : Str} (hw : w ∈ words) {l : List Str} (hl : l ∈ CH i) {c : Int} (hc : c ∈ ([0, 1, 2, 3] : List Int)) : cnt w l c ∈ CN i :=
  List.mem_flatMap.mpr ⟨w, hw, List.mem_flatMap.mpr ⟨l, hl, List.mem_map.mpr ⟨c, hc, rfl⟩⟩⟩
theorem plain_form {i : Nat} (hi : i < 6) {p : PyData} (hp : p ∈ PL i) : ∃ w a b, p = .tuple [.str w, a, b] ∧ w ∈ fwords ++ words := by
  rcases List.mem_append.mp hp
                          with h | h
  · obtain ⟨a, b, c, rfl, ha⟩ := fact_form hi h
    exact ⟨a, _, _, rfl, List.mem_append_left _ ha⟩
  · obtain ⟨w, hw, l, _, c, _, rfl⟩ := pl_form h
    exact ⟨w, _, _, rfl, List.mem_append_right _ hw⟩
theorem plain_pb {ns : List Int} {i : Nat} (hi : i < 6) {p : PyData} (hp : p ∈ PL i) : PB ns i p true ∧ VB ns i p true := by
  have k : ∀ ns rec d, p_is_plain_rule ns [SU i, ofPd p] = .ok (.bl true) ∧ pfn 6 (m_law_is ns rec) [SU i, ofPd p, .bl d] = .ok (.bl true) := fun ns rec d => by
    have := List.all_eq_true.mp (k_plain ns rec d i hi) p hp
    rw [Bool.and_eq_true] at this
    exact ⟨okIs_eq this.1, okIs_eq this.2⟩
  refine ⟨⟨(k ns (fun _ _ => .stuck) true).1, (k ns _ false).2⟩, ?_, (k ns _ true).2⟩
  obtain ⟨w, a, b, rfl, hw⟩ := plain_form hi hp
  have e := mapA_eq (noif ns i a b) w hw
  show p_p_is_rule ns [SU i, .dat (.tuple [.str w, a, b])] = _
  rw [e]
  exact ret2 (runP_ok (k ns (fun _ _ => .stuck) true).1 [])
theorem fact_at {i : Nat} (hi : i < 6) (ns : List Int) {x : PyData} (hx : x ∈ FX i) : p_p_is_fact ns [SU i, ofPd x] = .ok (.bl (i != 5)) := okIs_eq (List.all_eq_true.mp (k_fact ns i hi) x hx)
theorem law_if {i : Nat} (hi : i < 5) (ns : List Int) (rec : List U → Mh → R U) {x : PyData} (hx : x ∈ FX i) (y : PyData) : pfn 6 (m_law_is ns rec) [SU i, .dat (ifR x y), .bl true] = lawIf ns rec i x y := by
  have h : ∀ i, i < 6 → i < 5 → ∀ x ∈ FX i, pfn 6 (m_law_is ns rec) [SU i, .dat (ifR x y), .bl true] = lawIf ns rec i x y :=
    lt6 (fun _ => mapA_eq (k_law0 ns rec y)) (fun _ => mapA_eq (k_law1 ns rec y)) (fun _ => mapA_eq (k_law2 ns rec y)) (fun _ => mapA_eq (k_law3 ns rec y)) (fun _ => mapA_eq (k_law4 ns rec y)) (fun z => absurd z (by omega))
  exact h i (by omega) hi x hx
theorem if_vb {ns : List Int} {i : Nat} (hi : i < 6) {x : PyData} (hx : x ∈ FX i) {y : PyData} {b : Bool} (hy : PB ns i y b) : VB ns i (ifR x y) ((i != 5) && b) := by
  refine ⟨?_, ?_⟩
  · show p_p_is_rule ns [SU i, .dat (ifR x y)] = _
    rw [is_rule_if]
    exact and2 (runP_ok (fact_at hi ns hx) []) fun _ => runP_ok hy.1 []
  · show pfn 6 (m_law_is ns (runP (r_law_is ns 1))) [SU i, .dat (ifR x y), .bl true] = _
    by_cases h5 : i = 5
    · subst h5
      have hx : x = sm 5 := by
        unfold FX at hx
        rw [fc5] at hx
        exact List.mem_singleton.mp hx
      subst hx
      exact k_law5 ns _ y
    · have e : (i != 5) = true := by simpa using h5
      rw [law_if (by omega) ns _ hx y, e, Bool.true_and]
      exact ret2 (runP_ok hy.2 [])
/-- a fact as the if's end, below another if -/
theorem if_pb {ns : List Int} {i : Nat} (hi : i < 6) {f : PyData} (hf : f ∈ FC i) (y : PyData) : PB ns i (ifR f y) false :=
  ⟨if_plain i f y ns, okIs_eq (List.all_eq_true.mp (k_deep ns _ y i hi) f hf)⟩
/-! ### keeps, and what it raises -/
section
variable {i : Nat} {v q : PyData} {ns : List Int}
theorem len_at (i : Nat) (ns : List Int) (h : Mh) : fLenD ns [SU i] h = .ok (.int (many i : Nat)) h := by
  show R.ok (U.int ((((Ls i).map PyData.str).map ofPd).length : Nat)) h = _
  rw [List.length_map, List.length_map]
  rfl
theorem rules_at {b : Bool} (hr : p_p_is_rule ns [SU i, ofPd v] = .ok (.bl b)) : p_p_check_rules ns [SU i, .dat (.list [v])] = if b then .ok .non else .ex 3 [("number", .int 0)] := by
  have e : p_p_check_rules ns [SU i, .dat (.list [v])] = toP (loopF (gtD 2 (gtCons (gtN 2) (gtCons (gtN 3) (gtNil)))) (sIf (bNot (bT (mCall (d_p_is_rule ns)  (lC (mV 0) (lC (mV 3) (lN)))))) (sRaise1 3 "number" (mV 2)) (sPass)) [.pr [.int 0, v]] [some (SU i), some (.dat (.list [v])), none, none] []) := by kernel_rfl
  have bd : sIf (bNot (bT (mCall (d_p_is_rule ns)  (lC (mV 0) (lC (mV 3) (lN)))))) (sRaise1 3 "number" (mV 2)) (sPass) [some (SU i), some (.dat (.list [v])), some (.int 0), some (ofPd v)] [] = if b then .nx [some (SU i), some (.dat (.list [v])), some (.int 0), some (ofPd v)] [] else .ex 3 [("number", .int 0)] [some (SU i), some (.dat (.list [v])), some (.int 0), some (ofPd v)] [] := by
    have c : mCall (d_p_is_rule ns)  (lC (mV 0) (lC (mV 3) (lN))) [some (SU i), some (.dat (.list [v])), some (.int 0), some (ofPd v)] [] = .ok (.bl b) [] := by
      show d_p_is_rule ns [SU i, ofPd v] [] = _
      exact runP_ok hr []
    simp only [sIf, bNot, bT, c, R.bind, R.bindS, asT]
    cases b <;> rfl
  rw [e, loopF, show gtD 2 (gtCons (gtN 2) (gtCons (gtN 3) (gtNil))) (.pr [.int 0, v]) [some (SU i), some (.dat (.list [v])), none, none] [] = some [some (SU i), some (.dat (.list [v])), some (.int 0), some (ofPd v)] from rfl]
  simp only [bd]
  cases b <;> rfl
theorem pattern_at {b : Bool} (hq : p_p_is_pattern ns [.int (many i : Nat), ofPd q] = .ok (.bl b)) : p_p_check_pattern ns [SU i, ofPd q] = if b then .ok .non else .ex 2 [] := by
  have m : m_p_check_pattern ns (slotsOf 2 [SU i, ofPd q]) [] = if b then .nx (slotsOf 2 [SU i, ofPd q]) [] else .ex 2 [] (slotsOf 2 [SU i, ofPd q]) [] := by
    have c : mCall (d_p_is_pattern ns)  (lC (mBt (fLenD ns) (lC (mV 0) (lN))) (lC (mV 1) (lN))) (slotsOf 2 [SU i, ofPd q]) [] = .ok (.bl b) [] := by
      show (((fLenD ns [SU i] []).bind fun u h1 => (lC (mV 1) (lN) (slotsOf 2 [SU i, ofPd q]) h1).bind fun us h2 => .ok (u :: us) h2).bind fun xs h1 => d_p_is_pattern ns xs h1) = _
      rw [len_at]
      exact runP_ok hq []
    unfold m_p_check_pattern
    simp only [sIf, bNot, bT, c, R.bind, R.bindS, asT]
    cases b <;> rfl
  unfold p_p_check_pattern pfn
  have p : ([SU i, ofPd q] : List U).all pureU = true := by
    show (pureU (SU i) && (pureU (ofPd q) && true)) = true
    rw [pu_of]
    rfl
  rw [if_pos p, m]
  cases b <;> rfl
def S3s (i : Nat) (v q : PyData) : Sl := [some (SU i), some (ofPd v), some (ofPd q)]
theorem c_rules {b : Bool} (hr : p_p_is_rule ns [SU i, ofPd v] = .ok (.bl b)) : sE (mCall (d_p_check_rules ns)  (lC (mV 0) (lC (mLd (lC (mV 1) (lN))) (lN)))) (S3s i v q) [] = if b then .nx (S3s i v q) [] else .ex 3 [("number", .int 0)] (S3s i v q) [] := by
  have a : lC (mV 0) (lC (mLd (lC (mV 1) (lN))) (lN)) (S3s i v q) [] = .ok [SU i, .dat (.list [v])] [] := by
    have n : mLd (lC (mV 1) (lN)) (S3s i v q) [] = .ok (.dat (.list [v])) [] := by
      show newL [ofPd v] [] = _
      exact newL_of [v] []
    have v0 : ∀ h, mV 0 (S3s i v q) h = .ok (SU i) h := fun h => rfl
    simp only [lC, v0, n, R.bind, lN]
  have c : mCall (d_p_check_rules ns)  (lC (mV 0) (lC (mLd (lC (mV 1) (lN))) (lN))) (S3s i v q) [] = if b then .ok .non [] else .ex 3 [("number", .int 0)] [] := by
    simp only [mCall, a, R.bind]
    show (p_p_check_rules ns [SU i, .dat (.list [v])]).at [] = _
    rw [rules_at hr]
    cases b <;> rfl
  simp only [sE, c]
  cases b <;> rfl
theorem c_pattern {b : Bool} (hq : p_p_is_pattern ns [.int (many i : Nat), ofPd q] = .ok (.bl b)) : sE (mCall (d_p_check_pattern ns)  (lC (mV 0) (lC (mV 2) (lN)))) (S3s i v q) [] = if b then .nx (S3s i v q) [] else .ex 2 [] (S3s i v q) [] := by
  have c : mCall (d_p_check_pattern ns)  (lC (mV 0) (lC (mV 2) (lN))) (S3s i v q) [] = if b then .ok .non [] else .ex 2 [] [] := by
    show (p_p_check_pattern ns [SU i, ofPd q]).at [] = _
    rw [pattern_at hq]
    cases b <;> rfl
  simp only [sE, c]
  cases b <;> rfl
theorem pure3 : ([SU i, ofPd v, ofPd q] : List U).all pureU = true := by
  show (pureU (SU i) && (pureU (ofPd v) && (pureU (ofPd q) && true))) = true
  rw [pu_of, pu_of]
  rfl
theorem keeps_no (hr : p_p_is_rule ns [SU i, ofPd v] = .ok (.bl false)) : p_p_keeps ns [SU i, ofPd v, ofPd q] = .ex 3 [("number", .int 0)] := by
  have m : m_p_keeps ns (slotsOf 3 [SU i, ofPd v, ofPd q]) [] = .ex 3 [("number", .int 0)] (S3s i v q) [] := by
    unfold m_p_keeps
    show sSeq _ _ (S3s i v q) [] = _
    rw [sSeq, c_rules hr]
    rfl
  exact pfn_ex pure3 m rfl
theorem keeps_bad (hr : p_p_is_rule ns [SU i, ofPd v] = .ok (.bl true)) (hq : p_p_is_pattern ns [.int (many i : Nat), ofPd q] = .ok (.bl false)) : p_p_keeps ns [SU i, ofPd v, ofPd q] = .ex 2 [] := by
  have m : m_p_keeps ns (slotsOf 3 [SU i, ofPd v, ofPd q]) [] = .ex 2 [] (S3s i v q) [] := by
    unfold m_p_keeps
    show sSeq _ _ (S3s i v q) [] = _
    rw [sSeq, c_rules hr]
    simp only [if_true]
    rw [sSeq, c_pattern hq]
    rfl
  exact pfn_ex pure3 m rfl
theorem keeps_at {b : Bool} (hr : p_p_is_rule ns [SU i, ofPd v] = .ok (.bl true)) (hq : p_p_is_pattern ns [.int (many i : Nat), ofPd q] = .ok (.bl true)) (hk : p_p_kept_in ns [SU i, ofPd v, ofPd q] = .ok (.bl b)) : p_p_keeps ns [SU i, ofPd v, ofPd q] = .ok (.bl b) := by
  have m : m_p_keeps ns (slotsOf 3 [SU i, ofPd v, ofPd q]) [] = .rt (.bl b) [] := by
    unfold m_p_keeps
    show sSeq _ _ (S3s i v q) [] = _
    rw [sSeq, c_rules hr]
    simp only [if_true]
    rw [sSeq, c_pattern hq]
    simp only [if_true]
    have c : mCall (d_p_kept_in ns)  (lC (mV 0) (lC (mV 1) (lC (mV 2) (lN)))) (S3s i v q) [] = .ok (.bl b) [] := by
      show (p_p_kept_in ns [SU i, ofPd v, ofPd q]).at [] = _
      rw [hk]
      rfl
    simp only [sRet, c, R.bindS]
  exact pfn_rt pure3 m rfl
theorem raised_ex {c : Nat} {f : List (Str × U)} {r : U} (hk : p_p_keeps ns [SU i, ofPd v, ofPd q] = .ex c f) (hc : (c = 3 ∧ f = ([("number", U.int 0)] : List (Str × U)) ∧ r = .dat (.tuple [.str "rule", .int 0])) ∨ (c = 2 ∧ f = [] ∧ r = .str "pattern")) : p_law_raised ns [SU i, ofPd v, ofPd q] = .ok r := by
  have b : sE (mCall (d_p_keeps ns)  (lC (mV 0) (lC (mV 1) (lC (mV 2) (lN))))) [some (SU i), some (ofPd v), some (ofPd q), none] [] = .ex c f [some (SU i), some (ofPd v), some (ofPd q), none] [] := by
    have c0 : mCall (d_p_keeps ns)  (lC (mV 0) (lC (mV 1) (lC (mV 2) (lN)))) [some (SU i), some (ofPd v), some (ofPd q), none] [] = .ex c f [] := by
      show (p_p_keeps ns [SU i, ofPd v, ofPd q]).at [] = _
      rw [hk]
      rfl
    simp only [sE, c0, R.bindS]
  have m : m_law_raised ns (slotsOf 4 [SU i, ofPd v, ofPd q]) [] = .rt r [] := by
    unfold m_law_raised
    show sSeq (sTryM _ _) _ [some (SU i), some (ofPd v), some (ofPd q), none] [] = _
    rw [sSeq, sTryM, b]
    rcases hc with ⟨rfl, rfl, rfl⟩ | ⟨rfl, rfl, rfl⟩
    · rfl
    · rfl
  have o : outU [] r = some r := by
    rcases hc with ⟨_, _, rfl⟩ | ⟨_, _, rfl⟩ <;> rfl
  exact pfn_rt pure3 m o
end
end Law

set_option Elab.async false
set_option linter.all false
set_option maxRecDepth 1000000
set_option maxHeartbeats 0
namespace Law
open PySem PySem.Spec PyProof.Rows L2 Vm
/-! ### drawn rules -/
inductive Rule (i : Nat) : PyData → Prop
  | fact {f : PyData} : f ∈ FC i → Rule i f
  | cnt {w : Str} {l : List Str} {c : Int} : w ∈ words → l ∈ CH i → c ∈ ([0, 1, 2, 3] : List Int) → Rule i (cnt w l c)
  | cond {f p : PyData} : f ∈ FC i → p ∈ PL i → Rule i (ifR f p)
theorem Rule.plain {i : Nat} {p : PyData} (h : p ∈ PL i) : Rule i p := by
  rcases List.mem_append.mp h
                          with h | h
  · exact .fact h
  · obtain ⟨w, hw, l, hl, c, hc, rfl⟩ := pl_form h
    exact .cnt hw hl hc
theorem fc_lt {i : Nat} (hi : i < 6) {f : PyData} (h : f ∈ FC i) : (i != 5) = true := by
  have ne : i ≠ 5 := fun e => by
    subst e
    rw [fc5] at h
    cases h
  simpa using ne
theorem ss_sk {x : Str} (h : SS.any (fun z => decide (z = x)) = true) : Sk 200 4 (.str x) := by
  obtain ⟨z, hz, e⟩ := List.any_eq_true.mp h
  have e := of_decide_eq_true e
  subst e
  exact gd_sk (List.all_eq_true.mp ss_ok z hz)
theorem words_ss : ((fwords ++ words).all fun x => SS.any fun z => decide (z = x)) = true := by kernel_rfl
theorem if_ss : SS.any (fun z => decide (z = "if")) = true := by kernel_rfl
theorem int_gd : ([0, 1, 2, 3].all fun (c : Int) => gdB (.int c)) = true := by kernel_rfl
theorem none_gd : gdB .none = true := by kernel_rfl
theorem mem_subs : ∀ {L l : List Str}, l ∈ subs L → l.Sublist L
  | [], l, h => by
    have h := List.mem_singleton.mp h
    subst h
    exact .slnil
  | x :: L, l, h => by
    rcases List.mem_append.mp h
                            with h | h
    · obtain ⟨m, hm, rfl⟩ := List.mem_map.mp h
      exact (mem_subs hm).cons_cons x
    · exact (mem_subs h).cons x
theorem subs_mem : ∀ {L l : List Str}, l.Sublist L → l ∈ subs L
  | _, _, .slnil => List.mem_singleton.mpr rfl
  | _, _, .cons x h => List.mem_append_right _ (subs_mem h)
  | _, _, .cons_cons x h => List.mem_append_left _ (List.mem_map.mpr ⟨_, subs_mem h, rfl⟩)
theorem many_le : ∀ i, i < 6 → (Ls i).length ≤ 4 := lt6 (by decide) (by decide) (by decide) (by decide) (by decide) (by decide)
theorem sk_steps {i : Nat} (hi : i < 6) {l : List Str} (h : l.Sublist (Ls i)) : Sk 1215 5 (.tuple (l.map .str)) := by
  refine (Sk.tuple (m := 6) (c := 200) (dp := 4) (fun d hd => ?_) ?_).mono (by decide) (by decide)
  · obtain ⟨x, hx, rfl⟩ := List.mem_map.mp hd
    exact ss_sk (List.all_eq_true.mp (k_ls i hi) x (h.subset hx))
  · have := h.length_le
    have := many_le i hi
    rw [List.length_map]
    omega
/-- a rule's three parts -/
structure Parts (r a b c : PyData) : Prop where
  eq : r = .tuple [a, b, c]
  sa : Sk 3654 6 a
  sb : Sk 3654 6 b
  sc : Sk 3654 6 c
theorem three {c dp c' dp' : Nat} {x y z : PyData} (hx : Sk c dp x) (hy : Sk c dp y) (hz : Sk c dp z) (h1 : 3 * (c + 2) + 3 ≤ c') (h2 : dp + 1 ≤ dp') : Sk c' dp' (.tuple [x, y, z]) := by
  refine (Sk.tuple (m := 3) (c := c) (dp := dp) (fun d hd => ?_) (by simp)).mono h1 h2
  rcases List.mem_cons.mp hd
                          with rfl | hd
  · exact hx
  rcases List.mem_cons.mp hd
                          with rfl | hd
  · exact hy
  rcases List.mem_cons.mp hd
                          with rfl | hd
  · exact hz
  cases hd
theorem fact_parts {i : Nat} (hi : i < 6) {f : PyData} (hf : f ∈ FC i) : ∃ a b c, f = .tuple [.str a, .str b, .str c] ∧ Sk 200 4 (.str a) ∧ Sk 200 4 (.str b) ∧ Sk 200 4 (.str c) := by
  have h := List.all_eq_true.mp (k_str i hi) f hf
  split at h
  · rename_i a b c
    rw [Bool.and_eq_true, Bool.and_eq_true] at h
    exact ⟨a, b, c, rfl, ss_sk h.1.1, ss_sk h.1.2, ss_sk h.2⟩
  · cases h
theorem word_sk {w : Str} (hw : w ∈ fwords ++ words) : Sk 200 4 (.str w) := ss_sk (List.all_eq_true.mp words_ss w hw)
theorem ch_sub {i : Nat} {l : List Str} (hl : l ∈ CH i) : l.Sublist (Ls i) := mem_subs (List.mem_filter.mp hl).1
theorem plain_parts {i : Nat} (hi : i < 6) {p : PyData} (hp : p ∈ PL i) : ∃ a b c, p = .tuple [a, b, c] ∧ Sk 1215 5 a ∧ Sk 1215 5 b ∧ Sk 1215 5 c := by
  rcases List.mem_append.mp hp
                          with h | h
  · obtain ⟨a, b, c, e, h1, h2, h3⟩ := fact_parts hi h
    exact ⟨_, _, _, e, h1.mono (by decide) (by decide), h2.mono (by decide) (by decide), h3.mono (by decide) (by decide)⟩
  · obtain ⟨w, hw, l, hl, c, hc, rfl⟩ := pl_form h
    exact ⟨_, _, _, rfl, (word_sk (List.mem_append_right _ hw)).mono (by decide) (by decide), sk_steps hi (ch_sub hl), (gd_sk (List.all_eq_true.mp int_gd c hc)).mono (by decide) (by decide)⟩
theorem plain_sk {i : Nat} (hi : i < 6) {p : PyData} (hp : p ∈ PL i) : Sk 3654 6 p := by
  obtain ⟨a, b, c, rfl, h1, h2, h3⟩ := plain_parts hi hp
  exact three h1 h2 h3 (by decide) (by decide)
theorem if_sk : Sk 200 4 (.str "if") := ss_sk if_ss
theorem Rule.parts {i : Nat} (hi : i < 6) {r : PyData} (h : Rule i r) : ∃ a b c, Parts r a b c := by
  have pl : ∀ {p}, p ∈ PL i → ∃ a b c, Parts p a b c := fun hp => by
    obtain ⟨a, b, c, e, h1, h2, h3⟩ := plain_parts hi hp
    exact ⟨a, b, c, e, h1.mono (by decide) (by decide), h2.mono (by decide) (by decide), h3.mono (by decide) (by decide)⟩
  cases h with
  | fact hf => exact pl (List.mem_append_left _ hf)
  | cnt hw hl hc => exact pl (List.mem_append_right _ (cn_of hw hl hc))
  | cond hf hp => exact ⟨_, _, _, rfl, if_sk.mono (by decide) (by decide), plain_sk hi (List.mem_append_left _ hf), plain_sk hi hp⟩
theorem Rule.vb {ns : List Int} {i : Nat} (hi : i < 6) {r : PyData} (h : Rule i r) : VB ns i r true := by
  cases h with
  | fact hf => exact (plain_pb hi (List.mem_append_left _ hf)).2
  | cnt hw hl hc => exact (plain_pb hi (List.mem_append_right _ (cn_of hw hl hc))).2
  | cond hf hp =>
    have := if_vb (ns := ns) hi (List.mem_cons_of_mem _ hf) (plain_pb hi hp).1
    rw [fc_lt hi hf] at this
    exact this
/-! ### values made of a rule -/
def TV (a b c : PyData) : List PyData := [.tuple [a, b], .tuple [a, b, c, .int 0], .list [a, b, c], .tuple [c, b, a], ifR (.tuple [a, b, c]) (.tuple [a, b, c]), ifR .none (.tuple [a, b, c]), .tuple [.tuple [a, b, c]]]
structure Pk (ns : List Int) (i : Nat) (v : PyData) : Prop where
  vb : ∃ b, VB ns i v b
  pb : ∃ b, PB ns i v b
  sk : Sk 32922 8 v
structure Vk (ns : List Int) (i : Nat) (v : PyData) : Prop where
  vb : ∃ b, VB ns i v b
  sk : Sk 98775 9 v
theorem Pk.vk {ns : List Int} {i : Nat} {v : PyData} (h : Pk ns i v) : Vk ns i v := ⟨h.vb, h.sk.mono (by decide) (by decide)⟩
theorem NR.pk {ns : List Int} {i : Nat} {v : PyData} (h : NR i v) (s : Sk 32922 8 v) : Pk ns i v := ⟨⟨_, h.vb⟩, ⟨_, h.pb⟩, s⟩
theorem rev_nr {i : Nat} (hi : i < 6) {r a b c : PyData} (h : Rule i r) (p : r = .tuple [a, b, c]) : NR i (.tuple [c, b, a]) := by
  cases h with
  | fact hf =>
    subst p
    exact nr_of fun ns rec d => List.all_eq_true.mp (k_revF ns rec d i hi) _ hf
  | cnt hw hl hc =>
    cases p
    exact nr_of fun ns rec d => List.all_eq_true.mp (List.all_eq_true.mp (k_revC ns rec d _ i hi) _ hw) _ hl
  | cond hf hp =>
    cases p
    rcases List.mem_append.mp hp
                            with h | h
    · exact nr_of fun ns rec d => List.all_eq_true.mp (k_revIF ns rec d _ i hi) _ h
    · obtain ⟨w, hw, l, hl, c, hc, rfl⟩ := pl_form h
      exact nr_of fun ns rec d => List.all_eq_true.mp (List.all_eq_true.mp (k_revIC ns rec d _ c i hi) _ hw) _ hl
theorem twice {ns : List Int} {i : Nat} (hi : i < 6) {r : PyData} (h : Rule i r) : (∃ b, VB ns i (ifR r r) b) ∧ ∃ b, PB ns i (ifR r r) b := by
  cases h with
  | fact hf =>
    exact ⟨⟨_, if_vb hi (List.mem_cons_of_mem _ hf) (plain_pb hi (List.mem_append_left _ hf)).1⟩, ⟨_, if_pb hi hf _⟩⟩
  | @cnt w l c hw hl hc =>
    have n := (bf_cnt hi hw hl c).nr (cnt w l c)
    exact ⟨⟨_, n.vb⟩, ⟨_, n.pb⟩⟩
  | cond hf hp =>
    obtain ⟨a, b, c, rfl, _⟩ := plain_parts hi (List.mem_append_left _ hf)
    obtain ⟨a', b', c', rfl, _⟩ := plain_parts hi hp
    have s1 := plain_sk hi (List.mem_append_left _ hf)
    have s2 := plain_sk hi hp
    have sl : Sk 10971 7 (.list [.tuple [a, b, c], .tuple [a', b', c']]) := (Sk.list (m := 2) (c := 3654) (dp := 6) (fun d hd => by
      rcases List.mem_cons.mp hd
                              with rfl | hd
      · exact s1
      rcases List.mem_cons.mp hd
                              with rfl | hd
      · exact s2
      cases hd) (by simp)).mono (by decide) (by decide)
    have n := (bf_if (i := i) (s1.shaped (by decide)) (s2.shaped (by decide)) (sl.shaped (by decide))).nr (ifR (.tuple [a, b, c]) (.tuple [a', b', c']))
    exact ⟨⟨_, n.vb⟩, ⟨_, n.pb⟩⟩
theorem tv_pk {ns : List Int} {i : Nat} (hi : i < 6) {r a b c : PyData} (h : Rule i r) (p : Parts r a b c) : ∀ v ∈ TV a b c, Pk ns i v := by
  obtain ⟨e, sa, sb, sc⟩ := p
  have sr : Sk 10971 7 (.tuple [a, b, c]) := three sa sb sc (by decide) (by decide)
  have tw := twice (ns := ns) hi h
  have rv := rev_nr hi h e
  subst e
  intro v hv
  rcases List.mem_cons.mp hv
                          with rfl | hv
  · exact (nr_t2 i a b).pk ((Sk.tuple (m := 2) (c := 3654) (dp := 6) (fun d hd => by
      rcases List.mem_cons.mp hd
                              with rfl | hd
      · exact sa
      rcases List.mem_cons.mp hd
                              with rfl | hd
      · exact sb
      cases hd) (by simp)).mono (by decide) (by decide))
  rcases List.mem_cons.mp hv
                          with rfl | hv
  · exact (nr_t4 i a b c (.int 0)).pk ((Sk.tuple (m := 4) (c := 3654) (dp := 6) (fun d hd => by
      rcases List.mem_cons.mp hd
                              with rfl | hd
      · exact sa
      rcases List.mem_cons.mp hd
                              with rfl | hd
      · exact sb
      rcases List.mem_cons.mp hd
                              with rfl | hd
      · exact sc
      rcases List.mem_cons.mp hd
                              with rfl | hd
      · exact (gd_sk (List.all_eq_true.mp int_gd 0 (by simp))).mono (by decide) (by decide)
      cases hd) (by simp)).mono (by decide) (by decide))
  rcases List.mem_cons.mp hv
                          with rfl | hv
  · exact (nr_list i _).pk ((Sk.list (m := 3) (c := 3654) (dp := 6) (fun d hd => by
      rcases List.mem_cons.mp hd
                              with rfl | hd
      · exact sa
      rcases List.mem_cons.mp hd
                              with rfl | hd
      · exact sb
      rcases List.mem_cons.mp hd
                              with rfl | hd
      · exact sc
      cases hd) (by simp)).mono (by decide) (by decide))
  rcases List.mem_cons.mp hv
                          with rfl | hv
  · exact rv.pk (three sc sb sa (by decide) (by decide))
  rcases List.mem_cons.mp hv
                          with rfl | hv
  · exact ⟨tw.1, tw.2, three (if_sk.mono (by decide) (by decide)) sr sr (by decide) (by decide)⟩
  rcases List.mem_cons.mp hv
                          with rfl | hv
  · exact (nr_ifnone i _).pk (three (if_sk.mono (by decide) (by decide)) ((gd_sk none_gd).mono (by decide) (by decide)) sr (by decide) (by decide))
  rcases List.mem_cons.mp hv
                          with rfl | hv
  · exact (nr_t1 i _).pk ((Sk.tuple (m := 1) (c := 10971) (dp := 7) (fun d hd => by
      rcases List.mem_cons.mp hd
                              with rfl | hd
      · exact sr
      cases hd) (by simp)).mono (by decide) (by decide))
  cases hv
def gd4 (v : PyData) : Bool := PyData.strOk v.shown && v.canLay0 && v.showable && Nat.ble v.shown.length 40 && Nat.ble v.depth 4
theorem gd4_sk {v : PyData} (h : gd4 v = true) : Sk 40 4 v := by
  unfold gd4 at h
  simp only [Bool.and_eq_true]
                          at h
  obtain ⟨⟨⟨⟨h1, h2⟩, h3⟩, h4⟩, h5⟩ := h
  exact ⟨h1, h2, h3, Nat.ble_eq.mp h4, Nat.ble_eq.mp h5⟩
def AI : List Int := [-1, 0, 1, 2, 3, 6, 7]
theorem ss4 : (SS.all fun x => gd4 (.str x)) = true := by kernel_rfl
theorem ai4 : (AI.all fun x => gd4 (.int x)) = true := by kernel_rfl
theorem bl4 (b : Bool) : gd4 (.bool b) = true := by cases b <;> kernel_rfl
theorem no4 : gd4 .none = true := by kernel_rfl
def skN : Nat → Nat
  | 0 => 40
  | k + 1 => 5 * (skN k + 2) + 3
def atomB : PyData → Bool
  | .str x => SS.any fun z => decide (z = x)
  | .int c => AI.any fun z => decide (z = c)
  | .bool _ => true
  | .none => true
  | _ => false
def skB : Nat → PyData → Bool
  | 0, v => atomB v
  | k + 1, v => match v with
    | .tuple l => Nat.ble l.length 5 && l.all (skB k)
    | .list l => Nat.ble l.length 5 && l.all (skB k)
    | v => atomB v
theorem atom_sk {v : PyData} (h : atomB v = true) : Sk 40 4 v := by
  unfold atomB at h
  split at h
  · obtain ⟨z, hz, e⟩ := List.any_eq_true.mp h
    have e := of_decide_eq_true e
    subst e
    exact gd4_sk (List.all_eq_true.mp ss4 z hz)
  · obtain ⟨z, hz, e⟩ := List.any_eq_true.mp h
    have e := of_decide_eq_true e
    subst e
    exact gd4_sk (List.all_eq_true.mp ai4 z hz)
  · exact gd4_sk (bl4 _)
  · exact gd4_sk no4
  · cases h
theorem skN_le : ∀ k, 40 ≤ skN k
  | 0 => Nat.le_refl _
  | k + 1 => by
    have := skN_le k
    show 40 ≤ 5 * (skN k + 2) + 3
    omega
theorem skB_sk : ∀ {k : Nat} {v : PyData}, skB k v = true → Sk (skN k) (4 + k) v
  | 0, v, h => atom_sk h
  | k + 1, v, h => by
    unfold skB at h
    split at h
    · rename_i l
      rw [Bool.and_eq_true, List.all_eq_true] at h
      exact (Sk.tuple (m := 5) (c := skN k) (dp := 4 + k) (fun d hd => skB_sk (h.2 d hd)) (Nat.ble_eq.mp h.1)).mono (Nat.le_refl _) (by omega)
    · rename_i l
      rw [Bool.and_eq_true, List.all_eq_true] at h
      exact (Sk.list (m := 5) (c := skN k) (dp := 4 + k) (fun d hd => skB_sk (h.2 d hd)) (Nat.ble_eq.mp h.1)).mono (Nat.le_refl _) (by omega)
    · exact (atom_sk h).mono (skN_le _) (by omega)
theorem gfx0 : ((FV 0).all (skB 4) && skB 4 (sm 0)) = true := by kernel_rfl
theorem gfx1 : ((FV 1).all (skB 4) && skB 4 (sm 1)) = true := by kernel_rfl
theorem gfx2 : ((FV 2).all (skB 4) && skB 4 (sm 2)) = true := by kernel_rfl
theorem gfx3 : ((FV 3).all (skB 4) && skB 4 (sm 3)) = true := by kernel_rfl
theorem gfx4 : ((FV 4).all (skB 4) && skB 4 (sm 4)) = true := by kernel_rfl
theorem gfx5 : ((FV 5).all (skB 4) && skB 4 (sm 5)) = true := by kernel_rfl
theorem gfx : ∀ i, i < 6 → ((FV i).all (skB 4) && skB 4 (sm i)) = true := lt6 gfx0 gfx1 gfx2 gfx3 gfx4 gfx5
theorem sk4 {v : PyData} (h : skB 4 v = true) : Sk 32922 8 v := (skB_sk h).mono (by decide) (by decide)
theorem fx_pk {ns : List Int} {i : Nat} (hi : i < 6) {v : PyData} (hv : v ∈ FV i) : Pk ns i v := by
  have h := List.all_eq_true.mp (k_ffix ns i hi) v hv
  rw [Bool.and_eq_true] at h
  have g := gfx i hi
  rw [Bool.and_eq_true] at g
  exact ⟨same2_eq h.1, same2_eq h.2, sk4 (List.all_eq_true.mp g.1 v hv)⟩
theorem inner_vk {ns : List Int} {i : Nat} (hi : i < 6) {x : PyData} (h : Pk ns i x) : Vk ns i (ifR (sm i) x) := by
  obtain ⟨b, hb⟩ := h.pb
  have g := gfx i hi
  rw [Bool.and_eq_true] at g
  have s2 : Sk 32922 8 (sm i) := sk4 g.2
  exact ⟨⟨_, if_vb hi List.mem_cons_self hb⟩, three (if_sk.mono (by decide) (by decide)) s2 h.sk (by decide) (by decide)⟩
end Law

set_option Elab.async false
set_option linter.all false
set_option maxRecDepth 1000000
set_option maxHeartbeats 0
namespace Law
open PySem PySem.Spec PyProof.Rows L2 Vm
/-! ### what a pattern keeps, by both looks -/
def restK (ns : List Int) : Ms := sSeq (sIf (bV (m1 (fInG [("far", "near"), ("near", "far"), ("same", "unlike"), ("unlike", "same")] false) (m2 (fIxD ns) (mV 1) (mC (.int 0))))) (sRet (mCall (d_p_holds ns)  (lC (mV 0) (lC (mV 1) (lC (mV 2) (lN)))))) (sPass))
    (sSeq (sAsg (mV 1) (gtD 3 (gtCons (gtN 6) (gtCons (gtN 7) (gtCons (gtN 8) (gtNil))))))
    (sSeq (sAsg (mV 2) (gtD 2 (gtCons (gtN 9) (gtCons (gtN 10) (gtNil)))))
    (sSeq (sAsg (mIf (bV (m2 fIn (mV 6) (mC (.dat (.tuple ((["least groups", "most groups"] : List Str).map PyData.str)))))) (mV 10) (mV 9)) (gtN 3))
    (sSeq (sAsg (mLcF (wSeq (mV 7)) (gtN 11) (bYes) (m2 (fIxD ns) (mV 3) (mMtK fIndex fIndexT (mV 0) (lC (mV 11) (lN)))) [11]) (gtN 4))
    (sSeq (sIf (bV (m2 fEq (mV 6) (mC (.str "each")))) (sRet (mBt (fAllD) (lC (mLcF (wSeq (mV 4)) (gtN 12) (bYes) (m2 fLe (mMtLD fCount (mV 4) (lC (mV 12) (lN))) (mV 8)) [12]) (lN)))) (sPass))
    (sSeq (sAsg (m1 fLenSetE (mV 4)) (gtN 5))
    (sRet (mIf (bV (m2 fIn (mV 6) (mTd (lC (mC (.str "most")) (lC (mC (.str "most groups")) (lN)))))) (m2 fLe (mV 5) (mV 8)) (m2 fGe (mV 5) (mV 8))))))))))
def restLK (ns : List Int) : Ms := sSeq (sIf (bV (m2 fIn (m2 (fIxD ns) (mV 1) (mC (.int 0))) (mTd (lC (mC (.str "same")) (lC (mC (.str "unlike")) (lC (mC (.str "near")) (lC (mC (.str "far")) (lN)))))))) (sRet (mCall (d_law_holds ns)  (lC (mV 0) (lC (mV 2) (lC (mV 1) (lN)))))) (sPass))
    (sSeq (sAsg (mIf (bV (m2 fIn (m2 (fIxD ns) (mV 1) (mC (.int 0))) (mTd (lC (mC (.str "most groups")) (lC (mC (.str "least groups")) (lN)))))) (m2 (fIxD ns) (mV 2) (mC (.int 1))) (m2 (fIxD ns) (mV 2) (mC (.int 0)))) (gtN 3))
    (sSeq (sAsg (mLcF (wSeq (m2 (fIxD ns) (mV 1) (mC (.int 1)))) (gtN 6) (bYes) (m2 (fIxD ns) (mV 3) (mMtK fIndex fIndexT (mV 0) (lC (mV 6) (lN)))) [6]) (gtN 4))
    (sSeq (sIf (bV (m2 fEq (m2 (fIxD ns) (mV 1) (mC (.int 0))) (mC (.str "each")))) (sRet (m2 fEq (mLcF (wSeq (mV 4)) (gtN 7) (bV (m2 fGt (mMtLD fCount (mV 4) (lC (mV 7) (lN))) (m2 (fIxD ns) (mV 1) (mC (.int 2))))) (mV 7) [7]) (mLd (lN)))) (sPass))
    (sSeq (sAsg (m1 fLenSetE (mV 4)) (gtN 5))
    (sRet (mIf (bV (m2 fIn (m2 (fIxD ns) (mV 1) (mC (.int 0))) (mTd (lC (mC (.str "most")) (lC (mC (.str "most groups")) (lN)))))) (m2 fLe (mV 5) (m2 (fIxD ns) (mV 1) (mC (.int 2)))) (m2 fGe (mV 5) (m2 (fIxD ns) (mV 1) (mC (.int 2))))))))))
theorem kept_if (ns : List Int) (rec : List U → Mh → R U) (i : Nat) (x y h g : PyData) : pfn 13 (m_p_kept_in ns rec) [SU i, .dat (ifR x y), .dat (.tuple [h, g])] = toP (sSeq (sRet (mOrV (mNotV (fun _ k => d_p_holds ns [SU i, ofPd x, .dat (.tuple [h, g])] k)) (fun _ k => rec [SU i, ofPd y, .dat (.tuple [h, g])] k))) (restK ns) (slotsOf 13 [SU i, .dat (ifR x y), .dat (.tuple [h, g])]) []) := by kernel_rfl
theorem lkeeps_if (ns : List Int) (rec : List U → Mh → R U) (i : Nat) (x y h g : PyData) : pfn 8 (m_law_keeps ns rec) [SU i, .dat (ifR x y), .dat (.tuple [h, g])] = toP (sSeq (sRet (mOrV (mNotV (fun _ k => d_law_holds ns [SU i, .dat (.tuple [h, g]), ofPd x] k)) (fun _ k => rec [SU i, ofPd y, .dat (.tuple [h, g])] k))) (restLK ns) (slotsOf 8 [SU i, .dat (ifR x y), .dat (.tuple [h, g])]) []) := by kernel_rfl
theorem or3 {A B : Me} {C : Ms} {S : Sl} {a b : Bool} (ha : A S [] = .ok (.bl a) []) (hb : B S [] = .ok (.bl b) []) : toP (sSeq (sRet (mOrV (mNotV A) B)) C S []) = .ok (.bl (!a || b)) := by
  have e : sRet (mOrV (mNotV A) B) S [] = .rt (.bl (!a || b)) [] := by
    show R.bindS (((A S []).bind _).bind _) S _ = _
    rw [ha]
    cases a with
    | false => rfl
    | true =>
      show R.bindS (B S []) S _ = _
      rw [hb]
      rfl
  rw [sSeq, e]
  rfl
section
variable {ns : List Int} {i : Nat} {h g : List Int}
theorem rows_of (hq : (h, g) ∈ PTn i) : h ∈ rowsN (many i) ∧ g ∈ rowsN (many i) := by
  unfold PTn at hq
  obtain ⟨h', hh, hq⟩ := List.mem_flatMap.mp hq
  obtain ⟨g', hg, e⟩ := List.mem_map.mp hq
  cases e
  exact ⟨hh, (List.mem_filter.mp hg).1⟩
theorem it_of {ws : List Str} {w : Str} (hw : w ∈ ws) {l : List Str} (hl : l ∈ CH i) (hh : h ∈ rowsN (many i)) : (w, l, h) ∈ IT ws i :=
  List.mem_flatMap.mpr ⟨w, hw, List.mem_flatMap.mpr ⟨l, hl, List.mem_map.mpr ⟨h, hh, rfl⟩⟩⟩
theorem fact_kept (hi : i < 6) (hh : h ∈ rowsN (many i)) (hg : g ∈ rowsN (many i)) {f : PyData} (hf : f ∈ FC i) (rec rec2 : List U → Mh → R U) : (∃ b, kp ns rec i f (encR h) (encR g) = .ok (.bl b) ∧ lk ns rec2 i f (encR h) (encR g) = .ok (.bl b)) ∧
    ∃ b, p_p_holds ns [SU i, ofPd f, .dat (.tuple [encR h, encR g])] = .ok (.bl b) ∧ p_law_holds ns [SU i, .dat (.tuple [encR h, encR g]), ofPd f] = .ok (.bl b) := by
  cases c : isG f with
  | true =>
    have k := List.all_eq_true.mp (List.all_eq_true.mp (k_fG ns rec rec2 (encR h) i hi) f (List.mem_filter.mpr ⟨hf, c⟩)) g hg
    rw [Bool.and_eq_true] at k
    exact ⟨same2_eq k.1, same2_eq k.2⟩
  | false =>
    have k := List.all_eq_true.mp (List.all_eq_true.mp (k_fH ns rec rec2 (encR g) i hi) f (List.mem_filter.mpr ⟨hf, by rw [c]; rfl⟩)) h hh
    rw [Bool.and_eq_true] at k
    exact ⟨same2_eq k.1, same2_eq k.2⟩
theorem cnt_kept (hi : i < 6) (hh : h ∈ rowsN (many i)) (hg : g ∈ rowsN (many i)) {w : Str} (hw : w ∈ words) {l : List Str} (hl : l ∈ CH i) {c : Int} (hc : c ∈ ([0, 1, 2, 3] : List Int)) (rec rec2 : List U → Mh → R U) : ∃ b, kp ns rec i (cnt w l c) (encR h) (encR g) = .ok (.bl b) ∧ lk ns rec2 i (cnt w l c) (encR h) (encR g) = .ok (.bl b) := by
  have hL : w ∈ wordsL → ∃ b, kp ns rec i (cnt w l c) (encR h) (encR g) = .ok (.bl b) ∧ lk ns rec2 i (cnt w l c) (encR h) (encR g) = .ok (.bl b) := fun hw =>
    ⟨cmpW w (fnum i l h) c, mapA_eq (k_mH ns rec (encR g) c i hi) (w, l, h) (it_of hw hl hh), mapA_eq (k_lH ns rec2 (encR g) c i hi) (w, l, h) (it_of hw hl hh)⟩
  have hG : w ∈ wordsG → ∃ b, kp ns rec i (cnt w l c) (encR h) (encR g) = .ok (.bl b) ∧ lk ns rec2 i (cnt w l c) (encR h) (encR g) = .ok (.bl b) := fun hw =>
    ⟨cmpW w (fnum i l g) c, mapA_eq (k_mG ns rec (encR h) c i hi) (w, l, g) (it_of hw hl hg), mapA_eq (k_lG ns rec2 (encR h) c i hi) (w, l, g) (it_of hw hl hg)⟩
  have hE : w = "each" → ∃ b, kp ns rec i (cnt w l c) (encR h) (encR g) = .ok (.bl b) ∧ lk ns rec2 i (cnt w l c) (encR h) (encR g) = .ok (.bl b) := fun e => by
    subst e
    exact same2_eq (List.all_eq_true.mp (List.all_eq_true.mp (List.all_eq_true.mp (k_each ns rec rec2 (encR g) i hi) l hl) h hh) c hc)
  unfold words at hw
  rcases List.mem_cons.mp hw with rfl | hw
  · exact hL (by unfold wordsL; simp)
  rcases List.mem_cons.mp hw with rfl | hw
  · exact hL (by unfold wordsL; simp)
  rcases List.mem_cons.mp hw with rfl | hw
  · exact hE rfl
  rcases List.mem_cons.mp hw with rfl | hw
  · exact hG (by unfold wordsG; simp)
  rcases List.mem_cons.mp hw with rfl | hw
  · exact hG (by unfold wordsG; simp)
  cases hw
theorem plain_kept (hi : i < 6) (hh : h ∈ rowsN (many i)) (hg : g ∈ rowsN (many i)) {p : PyData} (hp : p ∈ PL i) (rec rec2 : List U → Mh → R U) : ∃ b, kp ns rec i p (encR h) (encR g) = .ok (.bl b) ∧ lk ns rec2 i p (encR h) (encR g) = .ok (.bl b) := by
  rcases List.mem_append.mp hp with hf | hc
  · exact (fact_kept hi hh hg hf rec rec2).1
  · obtain ⟨w, hw, l, hl, c, hc', rfl⟩ := pl_form hc
    exact cnt_kept hi hh hg hw hl hc' rec rec2
end
end Law

set_option Elab.async false
set_option linter.all false
set_option maxRecDepth 1000000
set_option maxHeartbeats 0
namespace Law
open PySem PySem.Spec PyProof.Rows L2 Vm
section
variable {ns : List Int} {i : Nat} {h g : List Int}
theorem cond_kept {f p : PyData} {a b : Bool} (rec : List U → Mh → R U) (h1 : d_p_holds ns [SU i, ofPd f, .dat (.tuple [encR h, encR g])] [] = .ok (.bl a) []) (k1 : rec [SU i, ofPd p, .dat (.tuple [encR h, encR g])] [] = .ok (.bl b) []) : pfn 13 (m_p_kept_in ns rec) [SU i, .dat (ifR f p), .dat (.tuple [encR h, encR g])] = .ok (.bl (!a || b)) :=
  (kept_if ns rec i f p (encR h) (encR g)).trans (or3 (A := fun (_ : Sl) (k : Mh) => d_p_holds ns [SU i, ofPd f, .dat (.tuple [encR h, encR g])] k) (B := fun (_ : Sl) (k : Mh) => rec [SU i, ofPd p, .dat (.tuple [encR h, encR g])] k) (C := restK ns) (S := slotsOf 13 [SU i, .dat (ifR f p), .dat (.tuple [encR h, encR g])]) h1 k1)
theorem cond_lkeeps {f p : PyData} {a b : Bool} (rec : List U → Mh → R U) (h1 : d_law_holds ns [SU i, .dat (.tuple [encR h, encR g]), ofPd f] [] = .ok (.bl a) []) (k1 : rec [SU i, ofPd p, .dat (.tuple [encR h, encR g])] [] = .ok (.bl b) []) : pfn 8 (m_law_keeps ns rec) [SU i, .dat (ifR f p), .dat (.tuple [encR h, encR g])] = .ok (.bl (!a || b)) :=
  (lkeeps_if ns rec i f p (encR h) (encR g)).trans (or3 (A := fun (_ : Sl) (k : Mh) => d_law_holds ns [SU i, .dat (.tuple [encR h, encR g]), ofPd f] k) (B := fun (_ : Sl) (k : Mh) => rec [SU i, ofPd p, .dat (.tuple [encR h, encR g])] k) (C := restLK ns) (S := slotsOf 8 [SU i, .dat (ifR f p), .dat (.tuple [encR h, encR g])]) h1 k1)
theorem runP_at {p : List U → P0} {us : List U} {u : U} (e : p us = .ok u) : runP p us [] = .ok u [] := by
  unfold runP
  rw [e]
  rfl
theorem rule_kept (hi : i < 6) (hq : (h, g) ∈ PTn i) {r : PyData} (hr : Rule i r) : ∃ b, p_p_kept_in ns [SU i, ofPd r, .dat (encP (h, g))] = .ok (.bl b) ∧ p_law_keeps ns [SU i, ofPd r, .dat (encP (h, g))] = .ok (.bl b) := by
  obtain ⟨hh, hg⟩ := rows_of hq
  have e2 : p_p_kept_in ns = pfn 13 (m_p_kept_in ns (runP (r_p_kept_in ns 1))) := rfl
  have e3 : p_law_keeps ns = pfn 8 (m_law_keeps ns (runP (r_law_keeps ns 1))) := rfl
  rw [e2, e3]
  cases hr with
  | fact hf => exact plain_kept hi hh hg (List.mem_append_left _ hf) _ _
  | cnt hw hl hc => exact plain_kept hi hh hg (List.mem_append_right _ (cn_of hw hl hc)) _ _
  | @cond f p hf hp =>
    obtain ⟨a, h1, h2⟩ := (fact_kept (ns := ns) hi hh hg hf (fun _ _ => .stuck) (fun _ _ => .stuck)).2
    obtain ⟨b, k1, k2⟩ := plain_kept (ns := ns) hi hh hg hp (runP (r_p_kept_in ns 0)) (runP (r_law_keeps ns 0))
    have f2 : r_p_kept_in ns 1 = pfn 13 (m_p_kept_in ns (runP (r_p_kept_in ns 0))) := rfl
    have f3 : r_law_keeps ns 1 = pfn 8 (m_law_keeps ns (runP (r_law_keeps ns 0))) := rfl
    have k1' := k1
    unfold kp at k1'
    have k2' := k2
    unfold lk at k2'
    rw [← f2] at k1'
    rw [← f3] at k2'
    exact ⟨!a || b, cond_kept _ (runP_at h1) (runP_at k1'), cond_lkeeps _ (runP_at h2) (runP_at k2')⟩
end
end Law

set_option Elab.async false
set_option linter.all false
set_option maxRecDepth 100000
set_option maxHeartbeats 4100000
namespace Law
open PySem PySem.Spec PyProof.Rows L2 Vm
theorem p_take (ns : List Int) (d s b : Int) (hb : 0 < b) (hb2 : b < 1073741824) : ∃ r d' s', 0 ≤ r ∧ r < b ∧ p_law_take ns (fd d s) [.int b] = .ok (.int r) (fd d' s') := by
  by_cases hd : 0 < d
  · refine ⟨d % b, d / b, s, Int.emod_nonneg _ (by omega), Int.emod_lt_of_pos _ hb, ?_⟩
    simp [slotsOf, sSeq, sIf, sAsg, sRet, sRetN, sE, sPut, Vm.putIn, bV, bNot, bAnd, bOr, m2, m1, mV, mC, mBt, mCall, lC, lN, R.bind, R.bindS, fIxD, seqOf, fGt, fLt, fLe, fGe, fSub, fMod, fDiv, fPow, fI, asB, fInt, gtN, pureO, pureU, outM, outU, fMulF, fMulE, fMulD, fAddD, sPass, fAbs, fMax2, fMin2, mIf, mL, newO, fLenD, P0.at, pdOf, p_law_take, pmf, m_law_take, hd, hb, hb2, toM, atI, ixN]
  · refine ⟨(s * 6364136223846793005 + 1442695040888963407) % 2305843009213693951 / 65536 % b, d, (s * 6364136223846793005 + 1442695040888963407) % 2305843009213693951, Int.emod_nonneg _ (by omega), Int.emod_lt_of_pos _ hb, ?_⟩
    simp [slotsOf, sSeq, sIf, sAsg, sRet, sRetN, sE, sPut, Vm.putIn, bV, bNot, bAnd, bOr, m2, m1, mV, mC, mBt, mCall, lC, lN, R.bind, R.bindS, fIxD, seqOf, fGt, fLt, fLe, fGe, fSub, fMod, fDiv, fPow, fI, asB, fInt, gtN, pureO, pureU, outM, outU, fMulF, fMulE, fMulD, fAddD, sPass, fAbs, fMax2, fMin2, mIf, mL, newO, fLenD, P0.at, pdOf, p_law_take, pmf, m_law_take, hd, hb, hb2, toM, atI, ixN]
/-- a feed stands at k -/
def Fd (h : Mh) (k : Nat) : Prop := ∃ d s, h[k]? = some (fd d s)
theorem Fd.set {h : Mh} {k : Nat} (f : Fd h k) (d s : Int) : Fd (h.set k (fd d s)) k := by
  obtain ⟨d0, s0, e⟩ := f
  refine ⟨d, s, ?_⟩
  rw [List.getElem?_set_self (List.getElem?_eq_some_iff.mp e).1]
theorem d_take {h : Mh} {k : Nat} (ns : List Int) (f : Fd h k) (b : Int) (hb : 0 < b) (hb2 : b < 1073741824) : ∃ r d' s', 0 ≤ r ∧ r < b ∧ d_law_take ns [.loc k, .int b] h = .ok (.int r) (h.set k (fd d' s')) := by
  obtain ⟨d, s, e⟩ := f
  obtain ⟨r, d', s', h1, h2, h3⟩ := p_take ns d s b hb hb2
  refine ⟨r, d', s', h1, h2, ?_⟩
  simp [slotsOf, sSeq, sIf, sAsg, sRet, sRetN, sE, sPut, Vm.putIn, bV, bNot, bAnd, bOr, m2, m1, mV, mC, mBt, mCall, lC, lN, R.bind, R.bindS, fIxD, seqOf, fGt, fLt, fLe, fGe, fSub, fMod, fDiv, fPow, fI, asB, fInt, gtN, pureO, pureU, outM, outU, fMulF, fMulE, fMulD, fAddD, sPass, fAbs, fMax2, fMin2, mIf, mL, newO, fLenD, P0.at, pdOf, d_law_take, runM, e, h3]
theorem take0 (ns : List Int) (d s b : Int) (hb : 0 < b) (hb2 : b < 1073741824) : ∃ r d' s', 0 ≤ r ∧ r < b ∧ ∀ t, d_law_take ns [.loc 0, .int b] (fd d s :: t) = .ok (.int r) (fd d' s' :: t) := by
  obtain ⟨r, d', s', h1, h2, h3⟩ := p_take ns d s b hb hb2
  exact ⟨r, d', s', h1, h2, fun t => by simp [slotsOf, sSeq, sIf, sAsg, sRet, sRetN, sE, sPut, Vm.putIn, bV, bNot, bAnd, bOr, m2, m1, mV, mC, mBt, mCall, lC, lN, R.bind, R.bindS, fIxD, seqOf, fGt, fLt, fLe, fGe, fSub, fMod, fDiv, fPow, fI, asB, fInt, gtN, pureO, pureU, outM, outU, fMulF, fMulE, fMulD, fAddD, sPass, fAbs, fMax2, fMin2, mIf, mL, newO, fLenD, P0.at, pdOf, d_law_take, runM, h3]⟩
theorem atI_nat {α : Type} {xs : List α} {r : Int} (h0 : 0 ≤ r) (h1 : r < xs.length) : ∃ x, x ∈ xs ∧ ∀ {β : Type} (f : α → β), atI (xs.map f) r = some (f x) := by
  obtain ⟨n, rfl⟩ :=
                     Int.eq_ofNat_of_zero_le h0
  have hn : n < xs.length := by omega
  refine ⟨xs[n], List.getElem_mem hn, fun f => ?_⟩
  have e : ixN (xs.map f).length (n : Int) = some n := by
    unfold ixN
    simp [slotsOf, sSeq, sIf, sAsg, sRet, sRetN, sE, sPut, Vm.putIn, bV, bNot, bAnd, bOr, m2, m1, mV, mC, mBt, mCall, lC, lN, R.bind, R.bindS, fIxD, seqOf, fGt, fLt, fLe, fGe, fSub, fMod, fDiv, fPow, fI, asB, fInt, gtN, pureO, pureU, outM, outU, fMulF, fMulE, fMulD, fAddD, sPass, fAbs, fMax2, fMin2, mIf, mL, newO, fLenD, P0.at, pdOf]
    omega
  unfold atI
  rw [e]
  simp [slotsOf, sSeq, sIf, sAsg, sRet, sRetN, sE, sPut, Vm.putIn, bV, bNot, bAnd, bOr, m2, m1, mV, mC, mBt, mCall, lC, lN, R.bind, R.bindS, fIxD, seqOf, fGt, fLt, fLe, fGe, fSub, fMod, fDiv, fPow, fI, asB, fInt, gtN, pureO, pureU, outM, outU, fMulF, fMulE, fMulD, fAddD, sPass, fAbs, fMax2, fMin2, mIf, mL, newO, fLenD, P0.at, pdOf, List.getElem?_eq_getElem hn]
theorem p_pick (ns : List Int) (d s : Int) {ds : List PyData} (hd : ds ≠ []) (hl : ds.length < 1073741824) : ∃ x ∈ ds, ∃ d' s', p_law_pick ns (fd d s) [.dat (.list ds)] = .ok (ofPd x) (fd d' s') := by
  have h0 : 0 < ds.length := List.length_pos_iff.mpr hd
  obtain ⟨r, d', s', h1, h2, h3⟩ := take0 ns d s ds.length (by omega) (by omega)
  obtain ⟨x, hx, ex⟩ := atI_nat h1 h2
  refine ⟨x, hx, d', s', ?_⟩
  have e : m_law_pick ns (slotsOf 2 [.loc 0, .dat (.list ds)]) [fd d s] = .rt (ofPd x) [fd d' s'] := by
    unfold m_law_pick
    simp [slotsOf, sSeq, sIf, sAsg, sRet, sRetN, sE, sPut, Vm.putIn, bV, bNot, bAnd, bOr, m2, m1, mV, mC, mBt, mCall, lC, lN, R.bind, R.bindS, fIxD, seqOf, fGt, fLt, fLe, fGe, fSub, fMod, fDiv, fPow, fI, asB, fInt, gtN, pureO, pureU, outM, outU, fMulF, fMulE, fMulD, fAddD, sPass, fAbs, fMax2, fMin2, mIf, mL, newO, fLenD, P0.at, pdOf, h3, ex ofPd, List.length_map]
  unfold p_law_pick pmf
  rw [e]
  cases x <;> rfl
theorem pick0 (ns : List Int) (d s : Int) {ds : List PyData} (hd : ds ≠ []) (hl : ds.length < 1073741824) : ∃ x ∈ ds, ∃ d' s', ∀ t, d_law_pick ns [.loc 0, .dat (.list ds)] (fd d s :: t) = .ok (ofPd x) (fd d' s' :: t) := by
  obtain ⟨x, hx, d', s', h3⟩ := p_pick ns d s hd hl
  exact ⟨x, hx, d', s', fun t => by simp [slotsOf, sSeq, sIf, sAsg, sRet, sRetN, sE, sPut, Vm.putIn, bV, bNot, bAnd, bOr, m2, m1, mV, mC, mBt, mCall, lC, lN, R.bind, R.bindS, fIxD, seqOf, fGt, fLt, fLe, fGe, fSub, fMod, fDiv, fPow, fI, asB, fInt, gtN, pureO, pureU, outM, outU, fMulF, fMulE, fMulD, fAddD, sPass, fAbs, fMax2, fMin2, mIf, mL, newO, fLenD, P0.at, pdOf, d_law_pick, runM, h3]⟩
/-- some of a list, drawn one by one -/
theorem some_drawn (ns : List Int) {q : Mb} {s : Sl} {i : Nat} {b : Int} (hb : 0 < b) (hb2 : b < 1073741824) (hi : i < s.length) (hq : ∀ (u : U) d0 s0 r d1 s1 t, d_law_take ns [.loc 0, .int b] (fd d0 s0 :: t) = .ok (.int r) (fd d1 s1 :: t) → q (s.set i (some u)) (fd d0 s0 :: t) = .ok (decide (0 < r)) (fd d1 s1 :: t)) :
    ∀ (l : List Str) (d0 s0 : Int), ∃ l' : List Str, l'.Sublist l ∧ ∃ d1 s1, ∀ t, loopCF (gtN i) q (mV i) s (l.map U.str) (fd d0 s0 :: t) = .ok (l'.map U.str) (fd d1 s1 :: t)
  | [], d0, s0 => ⟨[], .slnil, d0, s0, fun t => rfl⟩
  | x :: l, d0, s0 => by
    obtain ⟨r, d1, s1, _, _, e⟩ := take0 ns d0 s0 b hb hb2
    obtain ⟨l', sl, d2, s2, e2⟩ := some_drawn ns hb hb2 hi hq l d1 s1
    by_cases hr : 0 < r
    · refine ⟨x :: l', sl.cons_cons x, d2, s2, fun t => ?_⟩
      have e1 := hq (.str x) d0 s0 r d1 s1 t (e t)
      rw [decide_eq_true hr] at e1
      rw [List.map_cons, loopCF]
      simp only [gtN]
      rw [e1]
      have ev : mV i (s.set i (some (.str x))) (fd d1 s1 :: t) = .ok (.str x) (fd d1 s1 :: t) := by
        unfold mV
        rw [List.getElem?_set_self hi]
      simp only
      rw [ev]
      simp only
      rw [e2 t]
      rfl
    · refine ⟨l', sl.cons x, d2, s2, fun t => ?_⟩
      have e1 := hq (.str x) d0 s0 r d1 s1 t (e t)
      rw [decide_eq_false hr] at e1
      rw [List.map_cons, loopCF]
      simp only [gtN]
      rw [e1]
      exact e2 t
theorem runM_at {p : O → List U → PM} {h : Mh} {n : Nat} {o o' : O} {us : List U} {u : U} (e : h[n]? = some o) (po : pureO o = true) (pu : us.all pureU = true) (q : p o us = .ok u o') : runM p (.loc n :: us) h = .ok u (h.set n o') := by
  show (match h[n]? with
    | some o => if pureO o && us.all pureU then (match p o us with
      | .ok u o' => R.ok u (h.set n o')
      | .ex c f o' => .ex c f (h.set n o')
      | .stuck => .stuck) else .stuck
    | none => .stuck) = _
  rw [e]
  simp only [po, pu, Bool.and_self, if_true, q]
end Law

set_option Elab.async false
set_option linter.all false
set_option maxRecDepth 100000
set_option maxHeartbeats 4100000
namespace Law
open PySem PySem.Spec PyProof.Rows L2 Vm
theorem ls_ne : ∀ i, i < 6 → Ls i ≠ [] := lt6 (by decide) (by decide) (by decide) (by decide) (by decide) (by decide)
theorem steps_u (i : Nat) : ((Ls i).map PyData.str).map ofPd = (Ls i).map U.str := by rw [List.map_map]; rfl
theorem ne_empty {l : List Str} (hs : SeqAt.shaped (.tuple (l.map .str)) = true) (h : Mh) : fNe (.dat (.tuple (l.map .str))) (.dat (.tuple [])) h = .ok (.bl (!l.isEmpty)) h := by
  have e2 : SeqAt.shaped (.tuple []) = true := rfl
  unfold fNe fEqB
  rw [rd_dat, rd_dat]
  simp only [hs, e2, Bool.and_self, if_true]
  cases l <;> rfl
theorem p_some (ns : List Int) (d s : Int) {i : Nat} (hi : i < 6) : ∃ l ∈ CH i, ∃ d' s', p_law_some_steps ns (fd d s) [SU i] = .ok (.dat (.tuple (l.map .str))) (fd d' s') := by
  obtain ⟨l, sub, d1, s1, e1⟩ := some_drawn ns (q := bV (m2 fGt (mCall (d_law_take ns)  (lC (mV 0) (lC (mC (.int 3)) (lN)))) (mC (.int 0)))) (s := [some (.loc 0), some (SU i), none, none]) (i := 3) (b := 3) (by decide) (by decide) (by simp) (fun u d0 s0 r d1 s1 t e => by
    show ((((lC (mV 0) (lC (mC (.int 3)) (lN))) [some (.loc 0), some (SU i), none, some u] (fd d0 s0 :: t)).bind fun xs h1 => d_law_take ns xs h1).bind fun x h1 => (R.ok (U.int 0) h1).bind fun y h2 => fGt x y h2).bind asB = _
    have a : (lC (mV 0) (lC (mC (.int 3)) (lN))) [some (.loc 0), some (SU i), none, some u] (fd d0 s0 :: t) = .ok [.loc 0, .int 3] (fd d0 s0 :: t) := rfl
    rw [a]
    simp only [R.bind, e]
    rfl) (Ls i) d s
  have c : mLcF (wSeq (mV 1)) (gtN 3) (bV (m2 fGt (mCall (d_law_take ns)  (lC (mV 0) (lC (mC (.int 3)) (lN)))) (mC (.int 0)))) (mV 3) [3] [some (.loc 0), some (SU i), none, none] [fd d s] = .ok (.dat (.list (l.map .str))) [fd d1 s1] := by
    have w : wSeq (mV 1) [some (.loc 0), some (SU i), none, none] [fd d s] = .ok ((Ls i).map U.str) [fd d s] := by
      show R.ok (((Ls i).map PyData.str).map ofPd) [fd d s] = _
      rw [steps_u]
    have z : decide (((Ls i).map U.str).length < lim) = true := decide_eq_true (by
      have := many_le i hi
      rw [List.length_map]
      unfold lim
      omega)
    unfold mLcF
    rw [w]
    simp only [R.bind]
    rw [z, if_pos rfl, show wipeM [some (.loc 0), some (SU i), none, none] [3] = [some (.loc 0), some (SU i), none, none] from rfl, e1 []]
    simp only
    exact newL_str l _
  have st : sAsg (mBt (fTupD) (lC (mLcF (wSeq (mV 1)) (gtN 3) (bV (m2 fGt (mCall (d_law_take ns)  (lC (mV 0) (lC (mC (.int 3)) (lN)))) (mC (.int 0)))) (mV 3) [3]) (lN))) (gtN 2) [some (.loc 0), some (SU i), none, none] [fd d s] = .nx [some (.loc 0), some (SU i), some (.dat (.tuple (l.map .str))), none] [fd d1 s1] := by
    have t : fTupD [.dat (.list (l.map .str))] [fd d1 s1] = .ok (.dat (.tuple (l.map .str))) [fd d1 s1] := by
      show newT ((l.map PyData.str).map ofPd) _ = _
      exact newT_of _ _
    simp only [sAsg, mBt, lC, c, lN, R.bind, t, R.bindS, gtN, List.set]
  have sk := (sk_steps hi sub).shaped (by decide)
  have ne := ne_empty sk [fd d1 s1]
  have cnd : bV (m2 fNe (mV 2) (mTd (lN))) [some (.loc 0), some (SU i), some (.dat (.tuple (l.map .str))), none] [fd d1 s1] = .ok (!l.isEmpty) [fd d1 s1] := by
    show ((R.ok (U.dat (.tuple [])) [fd d1 s1]).bind fun y h2 => fNe (.dat (.tuple (l.map .str))) y h2).bind asB = _
    simp only [R.bind, ne, asB]
  cases l with
  | cons x l =>
    refine ⟨x :: l, List.mem_filter.mpr ⟨subs_mem sub, rfl⟩, d1, s1, ?_⟩
    have m : m_law_some_steps ns (slotsOf 4 [.loc 0, SU i]) [fd d s] = .rt (.dat (.tuple ((x :: l).map .str))) [fd d1 s1] := by
      unfold m_law_some_steps
      show sSeq _ _ [some (.loc 0), some (SU i), none, none] [fd d s] = _
      rw [sSeq, st]
      simp only [sRet, mIf, cnd, R.bind, R.bindS]
      rfl
    unfold p_law_some_steps pmf
    rw [m]
    rfl
  | nil =>
    have ne0 : (Ls i).map PyData.str ≠ [] := fun z => ls_ne i hi (List.map_eq_nil_iff.mp z)
    obtain ⟨x, hx, d2, s2, e2⟩ := pick0 ns d1 s1 ne0 (by have := many_le i hi; rw [List.length_map]; omega)
    obtain ⟨y, hy, rfl⟩ :=
                            List.mem_map.mp hx
    refine ⟨[y], List.mem_filter.mpr ⟨subs_mem (List.singleton_sublist.mpr hy), rfl⟩, d2, s2, ?_⟩
    have pk : mCall (d_law_pick ns)  (lC (mV 0) (lC (mV 1) (lN))) [some (.loc 0), some (SU i), some (.dat (.tuple (([] : List Str).map .str))), none] [fd d1 s1] = .ok (.str y) [fd d2 s2] := by
      show d_law_pick ns [.loc 0, SU i] [fd d1 s1] = _
      exact e2 []
    have m : m_law_some_steps ns (slotsOf 4 [.loc 0, SU i]) [fd d s] = .rt (.dat (.tuple [.str y])) [fd d2 s2] := by
      unfold m_law_some_steps
      show sSeq _ _ [some (.loc 0), some (SU i), none, none] [fd d s] = _
      rw [sSeq, st]
      have t : mTd (lC (mCall (d_law_pick ns)  (lC (mV 0) (lC (mV 1) (lN)))) (lN)) [some (.loc 0), some (SU i), some (.dat (.tuple (([] : List Str).map .str))), none] [fd d1 s1] = .ok (.dat (.tuple [.str y])) [fd d2 s2] := by
        simp only [mTd, lC, pk, R.bind, lN]
        rfl
      simp only [sRet, mIf, cnd, R.bind, R.bindS]
      show R.bindS (mTd (lC (mCall (d_law_pick ns)  (lC (mV 0) (lC (mV 1) (lN)))) (lN)) [some (.loc 0), some (SU i), some (.dat (.tuple (([] : List Str).map .str))), none] [fd d1 s1]) _ _ = _
      rw [t]
      rfl
    unfold p_law_some_steps pmf
    rw [m]
    rfl
theorem fc_ne0 (h : Mh) : fNe (.dat (.list (FC 0))) (.dat (.list [])) h = .ok (.bl true) h := by kernel_rfl
theorem fc_ne1 (h : Mh) : fNe (.dat (.list (FC 1))) (.dat (.list [])) h = .ok (.bl true) h := by kernel_rfl
theorem fc_ne2 (h : Mh) : fNe (.dat (.list (FC 2))) (.dat (.list [])) h = .ok (.bl true) h := by kernel_rfl
theorem fc_ne3 (h : Mh) : fNe (.dat (.list (FC 3))) (.dat (.list [])) h = .ok (.bl true) h := by kernel_rfl
theorem fc_ne4 (h : Mh) : fNe (.dat (.list (FC 4))) (.dat (.list [])) h = .ok (.bl true) h := by kernel_rfl
theorem fc_ne5 (h : Mh) : fNe (.dat (.list (FC 5))) (.dat (.list [])) h = .ok (.bl false) h := by kernel_rfl
theorem fc_ne (h : Mh) : ∀ i, i < 6 → fNe (.dat (.list (FC i))) (.dat (.list [])) h = .ok (.bl (i != 5)) h :=
  lt6 (fc_ne0 h) (fc_ne1 h) (fc_ne2 h) (fc_ne3 h) (fc_ne4 h) (fc_ne5 h)
theorem k_fl0 : (Nat.ble (FC 0).length 100 && ((FC 0).isEmpty == (0 == 5))) = true := by kernel_rfl
theorem k_fl1 : (Nat.ble (FC 1).length 100 && ((FC 1).isEmpty == (1 == 5))) = true := by kernel_rfl
theorem k_fl2 : (Nat.ble (FC 2).length 100 && ((FC 2).isEmpty == (2 == 5))) = true := by kernel_rfl
theorem k_fl3 : (Nat.ble (FC 3).length 100 && ((FC 3).isEmpty == (3 == 5))) = true := by kernel_rfl
theorem k_fl4 : (Nat.ble (FC 4).length 100 && ((FC 4).isEmpty == (4 == 5))) = true := by kernel_rfl
theorem k_fl5 : (Nat.ble (FC 5).length 100 && ((FC 5).isEmpty == (5 == 5))) = true := by kernel_rfl
theorem fc_few {i : Nat} (hi : i < 6) (h5 : (i != 5) = true) : FC i ≠ [] ∧ (FC i).length < 1073741824 := by
  have k : ∀ i, i < 6 → (Nat.ble (FC i).length 100 && ((FC i).isEmpty == (i == 5))) = true := lt6 k_fl0 k_fl1 k_fl2 k_fl3 k_fl4 k_fl5
  have h := k i hi
  rw [Bool.and_eq_true] at h
  have h1 := Nat.ble_eq.mp h.1
  refine ⟨fun e => ?_, by omega⟩
  have h2 := h.2
  rw [e] at h2
  have h5' : (i == 5) = false := by simpa using h5
  rw [h5'] at h2
  cases h2
end Law

set_option Elab.async false
set_option linter.all false
set_option maxRecDepth 100000
set_option maxHeartbeats 4100000
namespace Law
open PySem PySem.Spec PyProof.Rows L2 Vm
/-! ### steps of a run, each by itself -/
section
variable {A B C : Me} {S S1 : Sl} {h h1 h2 h3 : Mh} {u v w : U} {c : Mb} {a b : Ms} {x y : Bool} {i j k : Nat}
theorem mCall_at {d : List U → Mh → R U} {a : Ml} {us : List U} (e : a S h = .ok us h1) : mCall d a S h = d us h1 := by simp only [mCall, e, R.bind]
theorem mCall_to {d : List U → Mh → R U} {a : Ml} {us : List U} (e : a S h = .ok us h1) (e2 : d us h1 = .ok u h2) : mCall d a S h = .ok u h2 := (mCall_at e).trans e2
theorem ne_to {z : Bool} (v5 : A S h = .ok u h) (z5 : B S h = .ok v h) (e : fNe u v h = .ok (.bl z) h) : bV (m2 fNe A B) S h = .ok z h := by
  simp only [bV, m2, v5, z5, R.bind, e, asB]
theorem m2_to {f : F2} (e1 : A S h = .ok u h1) (e2 : B S h1 = .ok v h2) (e : f u v h2 = .ok w h3) : m2 f A B S h = .ok w h3 := by
  simp only [m2, e1, e2, R.bind, e]
theorem bV_to (e : A S h = .ok (.bl x) h1) : bV A S h = .ok x h1 := by simp only [bV, e, R.bind, asB]
theorem bT_to (e : A S h = .ok (.bl x) h1) : bT A S h = .ok x h1 := by simp only [bT, e, R.bind, asT]
theorem bNot_to (e : c S h = .ok x h1) : bNot c S h = .ok (!x) h1 := by simp only [bNot, e, R.bind]
theorem and_to {c2 : Mb} (e1 : c S h = .ok x h1) (e2 : x = true → c2 S h1 = .ok y h1) : bAnd c c2 S h = .ok (x && y) h1 := by
  cases x with
  | true => simp only [bAnd, e1, R.bind, e2 rfl, Bool.true_and]
  | false => simp only [bAnd, e1, R.bind, Bool.false_and]
theorem or_to {c2 : Mb} (e1 : c S h = .ok x h1) (e2 : x = false → c2 S h1 = .ok y h1) : bOr c c2 S h = .ok (x || y) h1 := by
  cases x with
  | true => simp only [bOr, e1, R.bind, Bool.true_or]
  | false => simp only [bOr, e1, R.bind, e2 rfl, Bool.false_or]
theorem if_t (e : c S h = .ok true h1) : sIf c a b S h = a S h1 := by simp only [sIf, e, R.bindS]
theorem if_f (e : c S h = .ok false h1) : sIf c a b S h = b S h1 := by simp only [sIf, e, R.bindS]
theorem mif_t (e : c S h = .ok true h1) : mIf c A B S h = A S h1 := by simp only [mIf, e, R.bind]
theorem mif_f (e : c S h = .ok false h1) : mIf c A B S h = B S h1 := by simp only [mIf, e, R.bind]
theorem asg_to (e : A S h = .ok u h1) : sAsg A (gtN i) S h = .nx (S.set i (some u)) h1 := by simp only [sAsg, e, R.bindS, gtN]
theorem ret_to (e : A S h = .ok u h1) : sRet A S h = .rt u h1 := by simp only [sRet, e, R.bindS]
theorem seq_to (e : a S h = .nx S1 h1) : sSeq a b S h = b S1 h1 := by simp only [sSeq, e]
theorem seq_rt (e : a S h = .rt u h1) : sSeq a b S h = .rt u h1 := by simp only [sSeq, e]
theorem par_to (e1 : A S h = .ok u h1) (e2 : B S h1 = .ok v h2) : sPar i j (lC A (lC B lN)) S h = .nx ((S.set i (some u)).set j (some v)) h2 := by simp only [sPar, lC, lN, e1, e2, R.bind, R.bindS]
theorem par3_to (e1 : A S h = .ok u h1) (e2 : B S h1 = .ok v h2) (e3 : C S h2 = .ok w h3) : sPar3 i j k (lC A (lC B (lC C lN))) S h = .nx (((S.set i (some u)).set j (some v)).set k (some w)) h3 := by simp only [sPar3, lC, lN, e1, e2, e3, R.bind, R.bindS]
theorem td3_to {p q r : PyData} (e1 : A S h = .ok u h1) (e2 : B S h1 = .ok v h2) (e3 : C S h2 = .ok w h3) (f : pdsOf [u, v, w] = some [p, q, r]) : mTd (lC A (lC B (lC C lN))) S h = .ok (.dat (.tuple [p, q, r])) h3 := by
  simp only [mTd, lC, lN, e1, e2, e3, R.bind]
  exact newT_at f
theorem ld1_to {p : PyData} (e1 : A S h = .ok u h1) (f : pdOf u = some p) : mLd (lC A lN) S h = .ok (.dat (.list [p])) h1 := by
  simp only [mLd, lC, lN, e1, R.bind]
  exact newL_at (by simp only [pdsOf, f])
end
theorem facts_d (ns : List Int) {i : Nat} (hi : i < 6) (h : Mh) : d_law_facts ns [SU i] h = .ok (.dat (.list (FC i))) h := by
  unfold d_law_facts
  exact runP_ok (facts_at ns i hi) h
abbrev wordL : List PyData := words.map .str
abbrev numL : List PyData := [.int 1, .int 2, .int 2, .int 1, .int 3, .int 0]
theorem num_mem {x : PyData} (h : x ∈ numL) : ∃ c ∈ ([0, 1, 2, 3] : List Int), x = .int c := by
  rcases List.mem_cons.mp h
                          with rfl | h
  · exact ⟨1, by simp, rfl⟩
  rcases List.mem_cons.mp h
                          with rfl | h
  · exact ⟨2, by simp, rfl⟩
  rcases List.mem_cons.mp h
                          with rfl | h
  · exact ⟨2, by simp, rfl⟩
  rcases List.mem_cons.mp h
                          with rfl | h
  · exact ⟨1, by simp, rfl⟩
  rcases List.mem_cons.mp h
                          with rfl | h
  · exact ⟨3, by simp, rfl⟩
  rcases List.mem_cons.mp h
                          with rfl | h
  · exact ⟨0, by simp, rfl⟩
  cases h
theorem some0 (ns : List Int) (d s : Int) {i : Nat} (hi : i < 6) : ∃ l ∈ CH i, ∃ d' s', d_law_some_steps ns [.loc 0, SU i] [fd d s] = .ok (.dat (.tuple (l.map .str))) [fd d' s'] := by
  obtain ⟨l, hl, d', s', e⟩ := p_some ns d s hi
  refine ⟨l, hl, d', s', ?_⟩
  unfold d_law_some_steps
  exact runM_at (h := [fd d s]) (n := 0) rfl rfl rfl e
section
variable {ns : List Int} {i : Nat} {s3 s4 : Option U} {h : Mh} {d s : Int}
abbrev Sx (i : Nat) (F : List PyData) (x2 x3 : Option U) (r : Int) : Sl := [some (.loc 0), some (SU i), x2, x3, some (.int r), some (.dat (.list F))]
theorem v5_at (F : List PyData) (x2 x3 : Option U) (r : Int) (h : Mh) : mV 5 (Sx i F x2 x3 r) h = .ok (.dat (.list F)) h := rfl
theorem l05_at (F : List PyData) (x2 x3 : Option U) (r : Int) (h : Mh) : lC (mV 0) (lC (mV 5) (lN)) (Sx i F x2 x3 r) h = .ok [.loc 0, .dat (.list F)] h := rfl
theorem l02_at (F : List PyData) (x2 x3 : Option U) (r : Int) (h : Mh) : lC (mV 0) (lC (mC (.int 2)) (lN)) (Sx i F x2 x3 r) h = .ok [.loc 0, .int 2] h := rfl
theorem l01_at (F : List PyData) (x2 x3 : Option U) (r : Int) (h : Mh) : lC (mV 0) (lC (mV 1) (lN)) (Sx i F x2 x3 r) h = .ok [.loc 0, SU i] h := rfl
theorem lw_at (F : List PyData) (x2 x3 : Option U) (r : Int) (h : Mh) : lC (mV 0) (lC (mLd (lC (mC (.str "most")) (lC (mC (.str "least")) (lC (mC (.str "each")) (lC (mC (.str "most groups")) (lC (mC (.str "least groups")) (lN))))))) (lN)) (Sx i F x2 x3 r) h = .ok [.loc 0, .dat (.list wordL)] h := rfl
theorem ln_at (F : List PyData) (x2 x3 : Option U) (r : Int) (h : Mh) : lC (mV 0) (lC (mLd (lC (mC (.int 1)) (lC (mC (.int 2)) (lC (mC (.int 2)) (lC (mC (.int 1)) (lC (mC (.int 3)) (lC (mC (.int 0)) (lN)))))))) (lN)) (Sx i F x2 x3 r) h = .ok [.loc 0, .dat (.list numL)] h := rfl
theorem lt_at (F : List PyData) (x2 x3 : Option U) (r : Int) (h : Mh) : bV (m2 fLt (mV 4) (mC (.int 4))) (Sx i F x2 x3 r) h = .ok (decide (r < 4)) h := rfl
theorem gt_at (F : List PyData) (x2 x3 : Option U) (r : Int) (h : Mh) : bV (m2 fGt (mV 4) (mC (.int 7))) (Sx i F x2 x3 r) h = .ok (decide (7 < r)) h := rfl
theorem v2_at (F : List PyData) (x2 : U) (x3 : Option U) (r : Int) (h : Mh) : mV 2 (Sx i F (some x2) x3 r) h = .ok x2 h := rfl
theorem v3_at (F : List PyData) (x3 : U) (x2 : Option U) (r : Int) (h : Mh) : mV 3 (Sx i F x2 (some x3) r) h = .ok x3 h := rfl
theorem eq0 (k : Int) (h : Mh) : fEq (.int k) (.int 0) h = .ok (.bl (decide (k = 0))) h := by
  have : fEqB (.int k) (.int 0) h = some (PyData.eqv (.int k) (.int 0)) := rfl
  unfold fEq
  rw [this, eqv_int]
theorem out_rule {u : U} {d' s' : Int} (o : outM [fd d' s'] u = some u) (m : m_law_drawn_rule ns [some (.loc 0), some (SU i), none, none, none, none] [fd d s] = .rt u [fd d' s']) : p_law_drawn_rule ns (fd d s) [SU i] = .ok u (fd d' s') := by
  unfold p_law_drawn_rule pmf
  rw [show slotsOf 6 [U.loc 0, SU i] = [some (.loc 0), some (SU i), none, none, none, none] from rfl, m]
  show (if pureO (fd d' s') = true then (match outM [fd d' s'] u with
    | some u' => PM.ok u' (fd d' s')
    | none => .stuck) else .stuck) = _
  rw [show pureO (fd d' s') = true from rfl, if_pos rfl, o]
theorem out_pd (x : PyData) (d' s' : Int) : outM [fd d' s'] (ofPd x) = some (ofPd x) := by cases x <;> rfl
theorem pds3 (a : Str) (f p : PyData) : pdsOf [.str a, ofPd f, ofPd p] = some [.str a, f, p] := pds_of [.str a, f, p]
theorem p_rule (ns : List Int) (d s : Int) {i : Nat} (hi : i < 6) : ∃ r, Rule i r ∧ ∃ d' s', p_law_drawn_rule ns (fd d s) [SU i] = .ok (ofPd r) (fd d' s') := by
  obtain ⟨r, d1, s1, r0, r1, e1⟩ := take0 ns d s 10 (by decide) (by decide)
  have e1 := e1 []
  have ef := fun h => facts_d ns hi h
  have en := fun h => fc_ne h i hi
  have few := fun h5 => fc_few hi h5
  have fr : ∀ {f}, f ∈ FC i → Rule i f := fun h => .fact h
  have pf : ∀ {f}, f ∈ FC i → f ∈ PL i := fun h => List.mem_append_left _ h
  have cf : ∀ {f p}, f ∈ FC i → p ∈ PL i → Rule i (ifR f p) := fun h k => .cond h k
  generalize FC i = F at ef en few fr pf cf
  have st1 : sPar 4 5 (lC (mCall (d_law_take ns)  (lC (mV 0) (lC (mC (.int 10)) (lN)))) (lC (mCall (d_law_facts ns)  (lC (mV 1) (lN))) (lN))) [some (.loc 0), some (SU i), none, none, none, none] [fd d s] = .nx (Sx i F none none r) [fd d1 s1] :=
    par_to (mCall_to (us := [.loc 0, .int 10]) rfl e1) (mCall_to (us := [SU i]) rfl (ef _))
  have nec : ∀ x2 x3 h, bV (m2 fNe (mV 5) (mLd (lN))) (Sx i F x2 x3 r) h = .ok (i != 5) h := fun x2 x3 h => ne_to (v5_at F x2 x3 r h) rfl (en h)
  have c1 := and_to (lt_at (i := i) F none none r [fd d1 s1]) (fun _ => nec none none _)
  cases q1 : (decide (r < 4) && (i != 5)) with
  | true =>
    rw [q1] at c1
    rw [Bool.and_eq_true] at q1
    obtain ⟨ne, fw⟩ := few q1.2
    obtain ⟨x, hx, d2, s2, e2⟩ := pick0 ns d1 s1 ne fw
    refine ⟨x, fr hx, d2, s2, out_rule (out_pd x _ _) ?_⟩
    unfold m_law_drawn_rule
    exact (seq_to st1).trans (seq_rt ((if_t c1).trans (ret_to (mCall_to (l05_at F _ _ r _) (e2 [])))))
  | false =>
    rw [q1] at c1
    obtain ⟨x, hx, d2, s2, e2⟩ := pick0 ns d1 s1 (ds := wordL) (by simp [words]) (by simp [words])
    obtain ⟨w, hw, rfl⟩ := List.mem_map.mp hx
    obtain ⟨l, hl, d3, s3, e3⟩ := some0 ns d2 s2 hi
    obtain ⟨y, hy, d4, s4, e4⟩ := pick0 ns d3 s3 (ds := numL) (by simp) (by simp)
    obtain ⟨c, hc, rfl⟩ := num_mem hy
    have i3 := asg_to (i := 2) (mCall_to (d := d_law_pick ns) (lw_at (i := i) F none none r [fd d1 s1]) (e2 []))
    have i4 := asg_to (i := 3) (td3_to (p := .str w) (q := .tuple (l.map .str)) (r := .int c) (v2_at (i := i) F (.str w) none r [fd d2 s2]) (mCall_to (d := d_law_some_steps ns) (l01_at (i := i) F (some (.str w)) none r _) e3) (mCall_to (d := d_law_pick ns) (ln_at (i := i) F (some (.str w)) none r [fd d3 s3]) (e4 [])) rfl)
    have c5 := and_to (gt_at (i := i) F (some (.str w)) (some (.dat (cnt w l c))) r [fd d4 s4]) (fun _ => nec (some (.str w)) (some (.dat (cnt w l c))) _)
    cases q5 : (decide (7 < r) && (i != 5)) with
    | false =>
      rw [q5] at c5
      refine ⟨cnt w l c, .cnt hw hl hc, d4, s4, out_rule (out_pd _ _ _) ?_⟩
      unfold m_law_drawn_rule
      exact (seq_to st1).trans ((seq_to (if_f c1)).trans ((seq_to i3).trans ((seq_to i4).trans ((seq_to (if_f c5)).trans (ret_to (v3_at F (.dat (cnt w l c)) _ r _))))))
    | true =>
      rw [q5] at c5
      rw [Bool.and_eq_true] at q5
      obtain ⟨ne, fw⟩ := few q5.2
      obtain ⟨f, hf, d6, s6, e6⟩ := pick0 ns d4 s4 ne fw
      obtain ⟨k, d7, s7, _, _, e7⟩ := take0 ns d6 s6 2 (by decide) (by decide)
      have cq : bV (m2 fEq (mCall (d_law_take ns)  (lC (mV 0) (lC (mC (.int 2)) (lN)))) (mC (.int 0))) (Sx i F (some (.str w)) (some (.dat (cnt w l c))) r) [fd d6 s6] = .ok (decide (k = 0)) [fd d7 s7] :=
        bV_to (m2_to (mCall_to (d := d_law_take ns) (l02_at F _ _ r _) (e7 [])) rfl (eq0 k _))
      have end_ : ∃ p ∈ PL i, ∃ d8 s8, mIf (bV (m2 fEq (mCall (d_law_take ns)  (lC (mV 0) (lC (mC (.int 2)) (lN)))) (mC (.int 0)))) (mV 3) (mCall (d_law_pick ns)  (lC (mV 0) (lC (mV 5) (lN)))) (Sx i F (some (.str w)) (some (.dat (cnt w l c))) r) [fd d6 s6] = .ok (ofPd p) [fd d8 s8] := by
        cases hk : decide (k = 0) with
        | true =>
          rw [hk] at cq
          exact ⟨cnt w l c, List.mem_append_right _ (cn_of hw hl hc), d7, s7, (mif_t cq).trans (v3_at F (.dat (cnt w l c)) _ r _)⟩
        | false =>
          rw [hk] at cq
          obtain ⟨x, hx, d8, s8, e8⟩ := pick0 ns d7 s7 ne fw
          exact ⟨x, pf hx, d8, s8, (mif_f cq).trans (mCall_to (l05_at F _ _ r _) (e8 []))⟩
      obtain ⟨p, hp, d8, s8, e8⟩ := end_
      refine ⟨ifR f p, cf hf hp, d8, s8, out_rule (out_pd _ _ _) ?_⟩
      unfold m_law_drawn_rule
      exact (seq_to st1).trans ((seq_to (if_f c1)).trans ((seq_to i3).trans ((seq_to i4).trans (seq_rt ((if_t c5).trans (ret_to (td3_to rfl (mCall_to (l05_at F _ _ r _) (e6 [])) e8 (pds3 "if" f p))))))))
end
end Law

set_option Elab.async false
set_option linter.all false
set_option maxRecDepth 1000000
set_option maxHeartbeats 0
namespace Law
open PySem PySem.Spec PyProof.Rows L2 Vm
/-! ### the values of a rule -/
abbrev sameM (ns : List Int) : Me := mTd (lC (mC (.str "same")) (lC (mV 7) (lC (m2 (fIxD ns) (mV 1) (m1 fNeg (mC (.int 1)))) (lN))))
def restV (ns : List Int) : Ms := sSeq (sAsg (mTd (lC (mC (.str "if")) (lC (sameM ns) (lC (mCall (d_law_pick ns)  (lC (mV 0) (lC (mV 3) (lN)))) (lN))))) (gtN 4))
    (sSeq (sAsg (m2 fAddD (mV 3) (mLd (lC (mV 4) (lC (mTd (lC (mC (.str "if")) (lC (sameM ns) (lC (mC .non) (lN))))) (lN))))) (gtN 3))
    (sSeq (sAsg (m2 fAddD (mV 3) (mLd (lC (mTd (lC (mC (.str "if")) (lC (sameM ns) (lC (mTd (lC (mC (.str "most")) (lC (mV 6) (lC (mC (.int 7)) (lN))))) (lN))))) (lN)))) (gtN 3))
    (sSeq (sAsg (m2 fAddD (mLd (lC (mV 4) (lN))) (mLcF (wR1 (lC (mC (.int 8)) (lN))) (gtN 8) (bYes) (mCall (d_law_pick ns)  (lC (mV 0) (lC (mV 3) (lN)))) [8])) (gtN 5))
    (sRet (m2 fAddD (mV 5) (mLd (lC (mV 2) (lC (mTd (lC (mC (.str "most  groups")) (lC (mV 6) (lC (mC (.int 1)) (lN))))) (lC (mTd (lC (mC (.str "groups most")) (lC (mV 6) (lC (mC (.int 1)) (lN))))) (lN))))))))))
def restV0 (ns : List Int) : Ms := (sSeq (sAsg (m2 fAddD (mV 3) (mLd (lC (mTd (lC (mC (.str "if")) (lC (mC .non) (lC (mV 2) (lN))))) (lC (mTd (lC (mV 2) (lN))) (lC (mC (.int 0)) (lC (mC (.str "most")) (lN))))))) (gtN 3))
    (sSeq (sAsg (m2 fAddD (mV 3) (mLd (lC (mTd (lC (mC (.str "most")) (lC (mV 6) (lC (mC (.int 7)) (lN))))) (lC (mTd (lC (mC (.str "most")) (lC (mV 6) (lC (m1 fNeg (mC (.int 1))) (lN))))) (lC (mTd (lC (mC (.str "most")) (lC (mV 6) (lC (mC (.bl true)) (lN))))) (lC (mTd (lC (mC (.str "least")) (lC (mV 6) (lC (mC (.str "1")) (lN))))) (lN))))))) (gtN 3))
    (sSeq (sAsg (m2 fAddD (mV 3) (mLd (lC (mTd (lC (mC (.str "each")) (lC (mBt (fLstD) (lC (mV 6) (lN))) (lC (mC (.int 1)) (lN))))) (lN)))) (gtN 3))
    (sSeq (sAsg (m2 fAddD (mV 3) (mLd (lC (mTd (lC (mC (.str "most")) (lC (mTd (lN)) (lC (mC (.int 1)) (lN))))) (lC (mTd (lC (mC (.str "most")) (lC (m2 fAddD (mV 6) (mTd (lC (mV 7) (lN)))) (lC (mC (.int 1)) (lN))))) (lC (mTd (lC (mC (.str "most")) (lC (m1 fRev (mV 6)) (lC (mC (.int 1)) (lN))))) (lN)))))) (gtN 3))
    (sSeq (sAsg (m2 fAddD (mV 3) (mLd (lC (mTd (lC (mC (.str "most")) (lC (mV 7) (lC (mC (.int 1)) (lN))))) (lC (mTd (lC (mC (.str "each")) (lC (mTd (lC (mC .non) (lN))) (lC (mC (.int 1)) (lN))))) (lN))))) (gtN 3))
    (sSeq (sAsg (m2 fAddD (mV 3) (mLd (lC (mTd (lC (mC (.str "Most")) (lC (mV 6) (lC (mC (.int 1)) (lN))))) (lC (mTd (lC (mC (.str "most groups")) (lC (mTd (lC (mC (.str "q")) (lN))) (lC (mC (.int 1)) (lN))))) (lC (mTd (lC (mC (.str "least groups")) (lC (mV 6) (lC (mC (.int 6)) (lN))))) (lN)))))) (gtN 3))
    (sSeq (sAsg (m2 fAddD (mV 3) (mLd (lC (mTd (lC (mC (.str "least")) (lC (mV 6) (lC (mC (.int 0)) (lN))))) (lC (mTd (lC (mLd (lN)) (lC (mV 6) (lC (mC (.int 1)) (lN))))) (lN))))) (gtN 3))
    (sSeq (sAsg (m2 fAddD (mV 3) (mLd (lC (mTd (lC (mC (.str "if")) (lC (sameM ns) (lC (mTd (lC (mC (.str "most")) (lC (mV 6) (lC (mC (.int 1)) (lN))))) (lN))))) (lN)))) (gtN 3))
    (sSeq (sAsg (m2 fAddD (mV 3) (mLd (lC (mTd (lC (mC (.str "if")) (lC (mTd (lC (mC (.str "same")) (lC (m2 (fIxD ns) (mV 1) (m1 fNeg (mC (.int 1)))) (lC (mV 7) (lN))))) (lC (mTd (lC (mC (.str "most")) (lC (mV 6) (lC (mC (.int 1)) (lN))))) (lN))))) (lN)))) (gtN 3))
    (sSeq (sAsg (m2 fAddD (mV 3) (mLd (lC (mTd (lC (mC (.str "if")) (lC (mTd (lC (mC (.str "near")) (lC (mV 7) (lC (m2 (fIxD ns) (mV 1) (m1 fNeg (mC (.int 1)))) (lN))))) (lC (mTd (lC (mC (.str "if")) (lC (mTd (lC (mC (.str "near")) (lC (mV 7) (lC (m2 (fIxD ns) (mV 1) (m1 fNeg (mC (.int 1)))) (lN))))) (lC (mTd (lC (mC (.str "most")) (lC (mV 6) (lC (mC (.int 1)) (lN))))) (lN))))) (lN))))) (lN)))) (gtN 3))
    (sSeq (sAsg (m2 fAddD (mV 3) (mLd (lC (mTd (lC (mC (.str "most")) (lC (mTd (lC (mLd (lC (mV 7) (lN))) (lN))) (lC (mC (.int 1)) (lN))))) (lN)))) (gtN 3))
    (restV ns))))))))))))
abbrev firstL : Ml := (lC (mC .non) (lC (mTd (lN)) (lC (mSlD (mV 2) (oN) (oS (mC (.int 2)))) (lC (m2 fAddD (mV 2) (mTd (lC (mC (.int 0)) (lN)))) (lC (mBt (fLstD) (lC (mV 2) (lN))) (lC (m1 fRev (mV 2)) (lC (mTd (lC (mC (.str "if")) (lC (mV 2) (lC (mV 2) (lN))))) (lN))))))))
theorem values_is (ns : List Int) : m_law_values ns = sSeq (sPar 6 7 (lC (mBt (fTupD) (lC (mV 1) (lN))) (lC (m2 (fIxD ns) (mV 1) (mC (.int 0))) (lN)))) (sSeq (sAsg (mLd firstL) (gtN 3)) (restV0 ns)) := rfl
def OD0 (a b c : PyData) : List PyData := [.none, .tuple [], .tuple [a, b], .tuple [a, b, c, .int 0], .list [a, b, c], .tuple [c, b, a], ifR (.tuple [a, b, c]) (.tuple [a, b, c])]
def OD (i : Nat) (a b c : PyData) : List PyData := (FV i).take 2 ++ (TV a b c ++ ((FV i).drop 2).take 21)
abbrev Sv (i : Nat) (r : PyData) (O x4 x5 x8 : Option U) : Sl := [some (.loc 0), some (SU i), some (.dat r), O, x4, x5, some (.dat (some_ i)), some (ofPd (fst_ i)), x8]
theorem val_pre0 (ns : List Int) (a b c : PyData) (d s : Int) : restV0 ns (Sv 0 (.tuple [a, b, c]) (some (.dat (.list (OD0 a b c)))) none none none) [fd d s] = restV ns (Sv 0 (.tuple [a, b, c]) (some (.dat (.list (OD 0 a b c)))) none none none) [fd d s] := by kernel_rfl
theorem val_pre1 (ns : List Int) (a b c : PyData) (d s : Int) : restV0 ns (Sv 1 (.tuple [a, b, c]) (some (.dat (.list (OD0 a b c)))) none none none) [fd d s] = restV ns (Sv 1 (.tuple [a, b, c]) (some (.dat (.list (OD 1 a b c)))) none none none) [fd d s] := by kernel_rfl
theorem val_pre2 (ns : List Int) (a b c : PyData) (d s : Int) : restV0 ns (Sv 2 (.tuple [a, b, c]) (some (.dat (.list (OD0 a b c)))) none none none) [fd d s] = restV ns (Sv 2 (.tuple [a, b, c]) (some (.dat (.list (OD 2 a b c)))) none none none) [fd d s] := by kernel_rfl
theorem val_pre3 (ns : List Int) (a b c : PyData) (d s : Int) : restV0 ns (Sv 3 (.tuple [a, b, c]) (some (.dat (.list (OD0 a b c)))) none none none) [fd d s] = restV ns (Sv 3 (.tuple [a, b, c]) (some (.dat (.list (OD 3 a b c)))) none none none) [fd d s] := by kernel_rfl
theorem val_pre4 (ns : List Int) (a b c : PyData) (d s : Int) : restV0 ns (Sv 4 (.tuple [a, b, c]) (some (.dat (.list (OD0 a b c)))) none none none) [fd d s] = restV ns (Sv 4 (.tuple [a, b, c]) (some (.dat (.list (OD 4 a b c)))) none none none) [fd d s] := by kernel_rfl
theorem val_pre5 (ns : List Int) (a b c : PyData) (d s : Int) : restV0 ns (Sv 5 (.tuple [a, b, c]) (some (.dat (.list (OD0 a b c)))) none none none) [fd d s] = restV ns (Sv 5 (.tuple [a, b, c]) (some (.dat (.list (OD 5 a b c)))) none none none) [fd d s] := by kernel_rfl
theorem val_pre (ns : List Int) (a b c : PyData) (d s : Int) : ∀ i, i < 6 → restV0 ns (Sv i (.tuple [a, b, c]) (some (.dat (.list (OD0 a b c)))) none none none) [fd d s] = restV ns (Sv i (.tuple [a, b, c]) (some (.dat (.list (OD i a b c)))) none none none) [fd d s] :=
  lt6 (val_pre0 ns a b c d s) (val_pre1 ns a b c d s) (val_pre2 ns a b c d s) (val_pre3 ns a b c d s) (val_pre4 ns a b c d s) (val_pre5 ns a b c d s)
theorem sm_at0 (ns : List Int) (r : PyData) (O x4 x5 x8 : Option U) (h : Mh) : sameM ns (Sv 0 r O x4 x5 x8) h = .ok (.dat (sm 0)) h := by kernel_rfl
theorem sm_at1 (ns : List Int) (r : PyData) (O x4 x5 x8 : Option U) (h : Mh) : sameM ns (Sv 1 r O x4 x5 x8) h = .ok (.dat (sm 1)) h := by kernel_rfl
theorem sm_at2 (ns : List Int) (r : PyData) (O x4 x5 x8 : Option U) (h : Mh) : sameM ns (Sv 2 r O x4 x5 x8) h = .ok (.dat (sm 2)) h := by kernel_rfl
theorem sm_at3 (ns : List Int) (r : PyData) (O x4 x5 x8 : Option U) (h : Mh) : sameM ns (Sv 3 r O x4 x5 x8) h = .ok (.dat (sm 3)) h := by kernel_rfl
theorem sm_at4 (ns : List Int) (r : PyData) (O x4 x5 x8 : Option U) (h : Mh) : sameM ns (Sv 4 r O x4 x5 x8) h = .ok (.dat (sm 4)) h := by kernel_rfl
theorem sm_at5 (ns : List Int) (r : PyData) (O x4 x5 x8 : Option U) (h : Mh) : sameM ns (Sv 5 r O x4 x5 x8) h = .ok (.dat (sm 5)) h := by kernel_rfl
theorem sm_at (ns : List Int) (r : PyData) (O x4 x5 x8 : Option U) (h : Mh) : ∀ i, i < 6 → sameM ns (Sv i r O x4 x5 x8) h = .ok (.dat (sm i)) h :=
  lt6 (sm_at0 ns r O x4 x5 x8 h) (sm_at1 ns r O x4 x5 x8 h) (sm_at2 ns r O x4 x5 x8 h) (sm_at3 ns r O x4 x5 x8 h) (sm_at4 ns r O x4 x5 x8 h) (sm_at5 ns r O x4 x5 x8 h)
theorem o1_at0 (ns : List Int) (r x : PyData) (O x5 x8 : Option U) (h : Mh) : mLd (lC (mV 4) (lC (mTd (lC (mC (.str "if")) (lC (sameM ns) (lC (mC .non) (lN))))) (lN))) (Sv 0 r O (some (.dat (ifR (sm 0) x))) x5 x8) h = .ok (.dat (.list [ifR (sm 0) x, ifR (sm 0) .none])) h := by kernel_rfl
theorem o1_at1 (ns : List Int) (r x : PyData) (O x5 x8 : Option U) (h : Mh) : mLd (lC (mV 4) (lC (mTd (lC (mC (.str "if")) (lC (sameM ns) (lC (mC .non) (lN))))) (lN))) (Sv 1 r O (some (.dat (ifR (sm 1) x))) x5 x8) h = .ok (.dat (.list [ifR (sm 1) x, ifR (sm 1) .none])) h := by kernel_rfl
theorem o1_at2 (ns : List Int) (r x : PyData) (O x5 x8 : Option U) (h : Mh) : mLd (lC (mV 4) (lC (mTd (lC (mC (.str "if")) (lC (sameM ns) (lC (mC .non) (lN))))) (lN))) (Sv 2 r O (some (.dat (ifR (sm 2) x))) x5 x8) h = .ok (.dat (.list [ifR (sm 2) x, ifR (sm 2) .none])) h := by kernel_rfl
theorem o1_at3 (ns : List Int) (r x : PyData) (O x5 x8 : Option U) (h : Mh) : mLd (lC (mV 4) (lC (mTd (lC (mC (.str "if")) (lC (sameM ns) (lC (mC .non) (lN))))) (lN))) (Sv 3 r O (some (.dat (ifR (sm 3) x))) x5 x8) h = .ok (.dat (.list [ifR (sm 3) x, ifR (sm 3) .none])) h := by kernel_rfl
theorem o1_at4 (ns : List Int) (r x : PyData) (O x5 x8 : Option U) (h : Mh) : mLd (lC (mV 4) (lC (mTd (lC (mC (.str "if")) (lC (sameM ns) (lC (mC .non) (lN))))) (lN))) (Sv 4 r O (some (.dat (ifR (sm 4) x))) x5 x8) h = .ok (.dat (.list [ifR (sm 4) x, ifR (sm 4) .none])) h := by kernel_rfl
theorem o1_at5 (ns : List Int) (r x : PyData) (O x5 x8 : Option U) (h : Mh) : mLd (lC (mV 4) (lC (mTd (lC (mC (.str "if")) (lC (sameM ns) (lC (mC .non) (lN))))) (lN))) (Sv 5 r O (some (.dat (ifR (sm 5) x))) x5 x8) h = .ok (.dat (.list [ifR (sm 5) x, ifR (sm 5) .none])) h := by kernel_rfl
theorem o1_at (ns : List Int) (r x : PyData) (O x5 x8 : Option U) (h : Mh) : ∀ i, i < 6 → mLd (lC (mV 4) (lC (mTd (lC (mC (.str "if")) (lC (sameM ns) (lC (mC .non) (lN))))) (lN))) (Sv i r O (some (.dat (ifR (sm i) x))) x5 x8) h = .ok (.dat (.list [ifR (sm i) x, ifR (sm i) .none])) h :=
  lt6 (o1_at0 ns r x O x5 x8 h) (o1_at1 ns r x O x5 x8 h) (o1_at2 ns r x O x5 x8 h) (o1_at3 ns r x O x5 x8 h) (o1_at4 ns r x O x5 x8 h) (o1_at5 ns r x O x5 x8 h)
theorem o2_at0 (ns : List Int) (r : PyData) (O x4 x5 x8 : Option U) (h : Mh) : mLd (lC (mTd (lC (mC (.str "if")) (lC (sameM ns) (lC (mTd (lC (mC (.str "most")) (lC (mV 6) (lC (mC (.int 7)) (lN))))) (lN))))) (lN)) (Sv 0 r O x4 x5 x8) h = .ok (.dat (.list [ifR (sm 0) (mst "most" (some_ 0) (.int 7))])) h := by kernel_rfl
theorem o2_at1 (ns : List Int) (r : PyData) (O x4 x5 x8 : Option U) (h : Mh) : mLd (lC (mTd (lC (mC (.str "if")) (lC (sameM ns) (lC (mTd (lC (mC (.str "most")) (lC (mV 6) (lC (mC (.int 7)) (lN))))) (lN))))) (lN)) (Sv 1 r O x4 x5 x8) h = .ok (.dat (.list [ifR (sm 1) (mst "most" (some_ 1) (.int 7))])) h := by kernel_rfl
theorem o2_at2 (ns : List Int) (r : PyData) (O x4 x5 x8 : Option U) (h : Mh) : mLd (lC (mTd (lC (mC (.str "if")) (lC (sameM ns) (lC (mTd (lC (mC (.str "most")) (lC (mV 6) (lC (mC (.int 7)) (lN))))) (lN))))) (lN)) (Sv 2 r O x4 x5 x8) h = .ok (.dat (.list [ifR (sm 2) (mst "most" (some_ 2) (.int 7))])) h := by kernel_rfl
theorem o2_at3 (ns : List Int) (r : PyData) (O x4 x5 x8 : Option U) (h : Mh) : mLd (lC (mTd (lC (mC (.str "if")) (lC (sameM ns) (lC (mTd (lC (mC (.str "most")) (lC (mV 6) (lC (mC (.int 7)) (lN))))) (lN))))) (lN)) (Sv 3 r O x4 x5 x8) h = .ok (.dat (.list [ifR (sm 3) (mst "most" (some_ 3) (.int 7))])) h := by kernel_rfl
theorem o2_at4 (ns : List Int) (r : PyData) (O x4 x5 x8 : Option U) (h : Mh) : mLd (lC (mTd (lC (mC (.str "if")) (lC (sameM ns) (lC (mTd (lC (mC (.str "most")) (lC (mV 6) (lC (mC (.int 7)) (lN))))) (lN))))) (lN)) (Sv 4 r O x4 x5 x8) h = .ok (.dat (.list [ifR (sm 4) (mst "most" (some_ 4) (.int 7))])) h := by kernel_rfl
theorem o2_at5 (ns : List Int) (r : PyData) (O x4 x5 x8 : Option U) (h : Mh) : mLd (lC (mTd (lC (mC (.str "if")) (lC (sameM ns) (lC (mTd (lC (mC (.str "most")) (lC (mV 6) (lC (mC (.int 7)) (lN))))) (lN))))) (lN)) (Sv 5 r O x4 x5 x8) h = .ok (.dat (.list [ifR (sm 5) (mst "most" (some_ 5) (.int 7))])) h := by kernel_rfl
theorem o2_at (ns : List Int) (r : PyData) (O x4 x5 x8 : Option U) (h : Mh) : ∀ i, i < 6 → mLd (lC (mTd (lC (mC (.str "if")) (lC (sameM ns) (lC (mTd (lC (mC (.str "most")) (lC (mV 6) (lC (mC (.int 7)) (lN))))) (lN))))) (lN)) (Sv i r O x4 x5 x8) h = .ok (.dat (.list [ifR (sm i) (mst "most" (some_ i) (.int 7))])) h :=
  lt6 (o2_at0 ns r O x4 x5 x8 h) (o2_at1 ns r O x4 x5 x8 h) (o2_at2 ns r O x4 x5 x8 h) (o2_at3 ns r O x4 x5 x8 h) (o2_at4 ns r O x4 x5 x8 h) (o2_at5 ns r O x4 x5 x8 h)
theorem end_at (i : Nat) (a b c : PyData) (O x4 x5 x8 : Option U) (h : Mh) : mLd (lC (mV 2) (lC (mTd (lC (mC (.str "most  groups")) (lC (mV 6) (lC (mC (.int 1)) (lN))))) (lC (mTd (lC (mC (.str "groups most")) (lC (mV 6) (lC (mC (.int 1)) (lN))))) (lN)))) (Sv i (.tuple [a, b, c]) O x4 x5 x8) h = .ok (.dat (.list [.tuple [a, b, c], mst "most  groups" (some_ i) (.int 1), mst "groups most" (some_ i) (.int 1)])) h := by kernel_rfl
theorem in_at (i : Nat) (r x y : PyData) (O x5 x8 : Option U) (h : Mh) : mLd (lC (mV 4) (lN)) (Sv i r O (some (.dat (ifR x y))) x5 x8) h = .ok (.dat (.list [ifR x y])) h := by kernel_rfl
theorem fx_mem : ∀ i, i < 6 → ∀ v ∈ (FV i).take 2 ++ ((FV i).drop 2).take 21 ++ [ifR (sm i) .none, ifR (sm i) (mst "most" (some_ i) (.int 7)), mst "most  groups" (some_ i) (.int 1), mst "groups most" (some_ i) (.int 1)], v ∈ FV i := fun i _ v hv => by
  have e : (FV i).take 2 ++ ((FV i).drop 2).take 21 ++ [ifR (sm i) .none, ifR (sm i) (mst "most" (some_ i) (.int 7)), mst "most  groups" (some_ i) (.int 1), mst "groups most" (some_ i) (.int 1)] = FV i := rfl
  rw [e] at hv
  exact hv
theorem add_list (p q : List PyData) (hl : p.length + q.length ≤ 1000) (h : Mh) : fAddD (.dat (.list p)) (.dat (.list q)) h = .ok (.dat (.list (p ++ q))) h := by
  show (if okLen ((p.map ofPd).length + (q.map ofPd).length) then newL (p.map ofPd ++ q.map ofPd) h else .stuck) = _
  have e : okLen ((p.map ofPd).length + (q.map ofPd).length) = true := by
    unfold okLen
    rw [List.length_map, List.length_map]
    exact decide_eq_true
                            (by omega)
  rw [e, if_pos rfl, ← List.map_append]
  exact newL_of _ _
theorem vR1_nat (n : Nat) (h : n < 1000) : vR1 [.int (n : Nat)] = some (upI 0 n) := by
  unfold vR1
  simp only [Int.toNat_natCast, ite_eq_left_iff, decide_eq_true_eq]
  intro hn
  exact absurd ⟨by omega, by omega⟩ hn
theorem wR1_at {L : Ml} {s : Sl} {h h1 : Mh} {us l : List U} (e : L s h = .ok us h1) (z : vR1 us = some l) : wR1 L s h = .ok l h1 := by
  show (L s h).bind (fun us h1 => match vR1 us with
    | some l => R.ok l h1
    | none => .stuck) = _
  rw [e]
  show (match vR1 us with
    | some l => R.ok l h1
    | none => .stuck) = _
  rw [z]
section
variable {A : Me} {L : Ml} {S : Sl} {h h1 h2 : Mh} {u : U} {us : List U} {ns : List Int}
theorem lC_to (e : A S h = .ok u h1) (e2 : L S h1 = .ok us h2) : lC A L S h = .ok (u :: us) h2 := by simp only [lC, e, e2, R.bind]
theorem ld_to {ds : List PyData} (e : L S h = .ok us h1) (f : pdsOf us = some ds) (k : okLen us.length = true) : mLd L S h = .ok (.dat (.list ds)) h1 := by
  simp only [mLd, e, R.bind, k, if_true]
  exact newL_at f
theorem mBt_to {f : List U → Mh → R U} (e : L S h = .ok us h1) (e2 : f us h1 = .ok u h2) : mBt f L S h = .ok u h2 := by simp only [mBt, e, R.bind, e2]
theorem m1_to {f : U → Mh → R U} {v : U} (e : A S h = .ok u h1) (e2 : f u h1 = .ok v h2) : m1 f A S h = .ok v h2 := by simp only [m1, e, R.bind, e2]
theorem first_at (i : Nat) (a b c : PyData) (O x4 x5 x8 : Option U) (h : Mh) : mLd firstL (Sv i (.tuple [a, b, c]) O x4 x5 x8) h = .ok (.dat (.list (OD0 a b c))) h := by
  have e2 : ∀ h, mV 2 (Sv i (.tuple [a, b, c]) O x4 x5 x8) h = .ok (.dat (.tuple [a, b, c])) h := fun h => rfl
  have s2 : mSlD (mV 2) (oN) (oS (mC (.int 2))) (Sv i (.tuple [a, b, c]) O x4 x5 x8) h = .ok (.dat (.tuple [a, b])) h := by
    have e : mSlD (mV 2) (oN) (oS (mC (.int 2))) (Sv i (.tuple [a, b, c]) O x4 x5 x8) h = newT [ofPd a, ofPd b] h := by kernel_rfl
    exact e.trans (newT_of [a, b] h)
  refine ld_to (lC_to rfl (lC_to (u := .dat (.tuple [])) rfl (lC_to s2 (lC_to (u := .dat (.tuple [a, b, c, .int 0])) (m2_to (e2 h) (v := .dat (.tuple [.int 0])) (h2 := h) rfl ?_) (lC_to (u := .dat (.list [a, b, c])) (mBt_to (us := [.dat (.tuple [a, b, c])]) (h1 := h) rfl ?_) (lC_to (u := .dat (.tuple [c, b, a])) (m1_to (e2 h) ?_) (lC_to (u := .dat (ifR (.tuple [a, b, c]) (.tuple [a, b, c]))) (h1 := h) rfl rfl))))))) rfl rfl
  · exact newT_of [a, b, c, .int 0] h
  · exact newL_of [a, b, c] h
  · exact newT_of [c, b, a] h
theorem picks (ns : List Int) {O : List PyData} (ho : O ≠ []) (hl : O.length < 1073741824) {s1 s2 x4 x5 x6 x7 x8 : Option U} : ∀ (us : List U) (d s : Int), ∃ xs : List PyData, xs.length = us.length ∧ (∀ x ∈ xs, x ∈ O) ∧ ∃ d' s', loopCF (gtN 8) bYes (mCall (d_law_pick ns)  (lC (mV 0) (lC (mV 3) (lN)))) [some (.loc 0), s1, s2, some (.dat (.list O)), x4, x5, x6, x7, x8] us [fd d s] = .ok (xs.map ofPd) [fd d' s']
  | [], d, s => ⟨[], rfl, (fun x h => nomatch h), d, s, rfl⟩
  | u :: us, d, s => by
    obtain ⟨x, hx, d1, s1', e1⟩ := pick0 ns d s ho hl
    obtain ⟨xs, h1, h2, d2, s2', e2⟩ := picks ns ho hl (s1 := s1) (s2 := s2) (x4 := x4) (x5 := x5) (x6 := x6) (x7 := x7) (x8 := x8) us d1 s1'
    refine ⟨x :: xs, by rw [List.length_cons, List.length_cons, h1], fun y hy => ?_, d2, s2', ?_⟩
    · rcases List.mem_cons.mp hy
                            with rfl | hy
      · exact hx
      · exact h2 y hy
    · have l : lC (mV 0) (lC (mV 3) (lN)) [some (.loc 0), s1, s2, some (.dat (.list O)), x4, x5, x6, x7, some u] [fd d s] = .ok [.loc 0, .dat (.list O)] [fd d s] := rfl
      rw [loopCF_cons (s1 := [some (.loc 0), s1, s2, some (.dat (.list O)), x4, x5, x6, x7, some u]) (h2 := [fd d s]) (h3 := [fd d1 s1']) (y := ofPd x) rfl rfl (mCall_to l (e1 [])), e2]
      rfl
end
end Law

set_option Elab.async false
set_option linter.all false
set_option maxRecDepth 100000
set_option maxHeartbeats 4100000
namespace Law
open PySem PySem.Spec PyProof.Rows L2 Vm
theorem ix00 (ns : List Int) (S : Sl) (h : Mh) (e : mV 1 S h = .ok (SU 0) h) : m2 (fIxD ns) (mV 1) (mC (.int 0)) S h = .ok (ofPd (fst_ 0)) h := m2_to e rfl rfl
theorem ix01 (ns : List Int) (S : Sl) (h : Mh) (e : mV 1 S h = .ok (SU 1) h) : m2 (fIxD ns) (mV 1) (mC (.int 0)) S h = .ok (ofPd (fst_ 1)) h := m2_to e rfl rfl
theorem ix02 (ns : List Int) (S : Sl) (h : Mh) (e : mV 1 S h = .ok (SU 2) h) : m2 (fIxD ns) (mV 1) (mC (.int 0)) S h = .ok (ofPd (fst_ 2)) h := m2_to e rfl rfl
theorem ix03 (ns : List Int) (S : Sl) (h : Mh) (e : mV 1 S h = .ok (SU 3) h) : m2 (fIxD ns) (mV 1) (mC (.int 0)) S h = .ok (ofPd (fst_ 3)) h := m2_to e rfl rfl
theorem ix04 (ns : List Int) (S : Sl) (h : Mh) (e : mV 1 S h = .ok (SU 4) h) : m2 (fIxD ns) (mV 1) (mC (.int 0)) S h = .ok (ofPd (fst_ 4)) h := m2_to e rfl rfl
theorem ix05 (ns : List Int) (S : Sl) (h : Mh) (e : mV 1 S h = .ok (SU 5) h) : m2 (fIxD ns) (mV 1) (mC (.int 0)) S h = .ok (ofPd (fst_ 5)) h := m2_to e rfl rfl
theorem ix0_at (ns : List Int) (S : Sl) (h : Mh) : ∀ i, i < 6 → mV 1 S h = .ok (SU i) h → m2 (fIxD ns) (mV 1) (mC (.int 0)) S h = .ok (ofPd (fst_ i)) h :=
  lt6 (ix00 ns S h) (ix01 ns S h) (ix02 ns S h) (ix03 ns S h) (ix04 ns S h) (ix05 ns S h)
theorem tup_at (i : Nat) (h : Mh) : fTupD [SU i] h = .ok (.dat (some_ i)) h := by
  show newT (((Ls i).map PyData.str).map ofPd) h = _
  exact newT_of _ _
theorem lc_to {m : Mw} {t : Gt} {e : Me} {vs : List Nat} {S : Sl} {h h1 h2 : Mh} {us : List U} {xs : List PyData} (w : m S h = .ok us h1) (z : us.length < lim) (e1 : loopCF t bYes e (wipeM S vs) us h1 = .ok (xs.map ofPd) h2) : mLcF m t bYes e vs S h = .ok (.dat (.list xs)) h2 := by
  simp only [mLcF, w, R.bind, decide_eq_true z, if_true, e1]
  exact newL_of xs h2
theorem eight : ∀ (S : Sl) h, wR1 (lC (mC (.int 8)) (lN)) S h = .ok (upI 0 8) h := fun S h => wR1_at (us := [.int ((8 : Nat) : Int)]) rfl (vR1_nat 8 (by omega))
theorem out_vals {ns : List Int} {i : Nat} {r : PyData} {d s d' s' : Int} {vs : List PyData} (m : m_law_values ns [some (.loc 0), some (SU i), some (.dat r), none, none, none, none, none, none] [fd d s] = .rt (.dat (.list vs)) [fd d' s']) : p_law_values ns (fd d s) [SU i, .dat r] = .ok (.dat (.list vs)) (fd d' s') := by
  unfold p_law_values pmf
  rw [show slotsOf 9 [U.loc 0, SU i, .dat r] = [some (.loc 0), some (SU i), some (.dat r), none, none, none, none, none, none] from rfl, m]
  rfl
theorem od_pk {ns : List Int} {i : Nat} (hi : i < 6) {r a b c : PyData} (hr : Rule i r) (p : Parts r a b c) : ∀ v ∈ OD i a b c, Pk ns i v := by
  intro v hv
  unfold OD at hv
  rcases List.mem_append.mp hv with h | h
  · exact fx_pk hi (List.mem_of_mem_take h)
  rcases List.mem_append.mp h
                          with h | h
  · exact tv_pk hi hr p v h
  · exact fx_pk hi (List.mem_of_mem_drop (List.mem_of_mem_take h))
theorem od_len (i : Nat) (a b c : PyData) : OD i a b c ≠ [] ∧ (OD i a b c).length ≤ 30 := by
  unfold OD TV
  refine ⟨by simp, ?_⟩
  simp only [List.length_append, List.length_take, List.length_cons, List.length_nil]
  omega
theorem v3_v (i : Nat) (r : PyData) (O : List PyData) (x4 x5 x8 : Option U) (h : Mh) : mV 3 (Sv i r (some (.dat (.list O))) x4 x5 x8) h = .ok (.dat (.list O)) h := rfl
theorem l03_v (i : Nat) (r : PyData) (O : List PyData) (x4 x5 x8 : Option U) (h : Mh) : lC (mV 0) (lC (mV 3) (lN)) (Sv i r (some (.dat (.list O))) x4 x5 x8) h = .ok [.loc 0, .dat (.list O)] h := rfl
theorem v5_v (i : Nat) (r : PyData) (O x4 x8 : Option U) (x : U) (h : Mh) : mV 5 (Sv i r O x4 (some x) x8) h = .ok x h := rfl
theorem set3_v (i : Nat) (r : PyData) (O x4 x5 x8 : Option U) (x : U) : (Sv i r O x4 x5 x8).set 3 (some x) = Sv i r (some x) x4 x5 x8 := rfl
theorem set4_v (i : Nat) (r : PyData) (O x4 x5 x8 : Option U) (x : U) : (Sv i r O x4 x5 x8).set 4 (some x) = Sv i r O (some x) x5 x8 := rfl
theorem set5_v (i : Nat) (r : PyData) (O x4 x5 x8 : Option U) (x : U) : (Sv i r O x4 x5 x8).set 5 (some x) = Sv i r O x4 (some x) x8 := rfl
theorem pds_if (i : Nat) (x : PyData) : pdsOf [.str "if", .dat (sm i), ofPd x] = some [.str "if", sm i, x] := pds_of [.str "if", sm i, x]
theorem p_values (ns : List Int) (d s : Int) {i : Nat} (hi : i < 6) {r : PyData} (hr : Rule i r) : ∃ vs, (∀ v ∈ vs, Vk ns i v) ∧ vs.length < 100 ∧ ∃ d' s', p_law_values ns (fd d s) [SU i, ofPd r] = .ok (.dat (.list vs)) (fd d' s') := by
  obtain ⟨a, b, c, p⟩ := hr.parts hi
  have pk := od_pk (ns := ns) hi hr p
  have rvk : Vk ns i r := ⟨⟨_, hr.vb hi⟩, by rw [p.eq]; exact three p.sa p.sb p.sc (by decide) (by decide)⟩
  have ol := od_len i a b c
  have pre := val_pre ns a b c d s i hi
  have e := p.eq
  subst e
  generalize OD i a b c = O at pk ol pre
  obtain ⟨ne, len⟩ := ol
  obtain ⟨x, hx, d1, s1, e1⟩ := pick0 ns d s ne (by omega)
  have ivk := inner_vk hi (pk x hx)
  have fm := fun v hv => fx_pk (ns := ns) hi (fx_mem i hi v hv)
  let O1 := O ++ [ifR (sm i) x, ifR (sm i) .none]
  let O2 := O1 ++ [ifR (sm i) (mst "most" (some_ i) (.int 7))]
  have ne2 : O2 ≠ [] := by simp [O2]
  have len2 : O2.length = O.length + 3 := by simp [O2, O1]
  obtain ⟨xs, h1, h2, d2, s2, e2⟩ := picks ns ne2 (by omega) (s1 := some (SU i)) (s2 := some (.dat (.tuple [a, b, c]))) (x4 := some (.dat (ifR (sm i) x))) (x5 := none) (x6 := some (.dat (some_ i))) (x7 := some (ofPd (fst_ i))) (x8 := none) (upI 0 8) d1 s1
  have xl : xs.length = 8 := by rw [h1, upI_len]
  refine ⟨[ifR (sm i) x] ++ xs ++ [.tuple [a, b, c], mst "most  groups" (some_ i) (.int 1), mst "groups most" (some_ i) (.int 1)], ?_, by simp [xl], d2, s2, out_vals ?_⟩
  · intro v hv
    rcases List.mem_append.mp hv with hv | hv
    · rcases List.mem_append.mp hv
                            with hv | hv
      · rw [List.mem_singleton.mp hv]
        exact ivk
      · rcases List.mem_append.mp (h2 v hv) with hv | hv
        · rcases List.mem_append.mp hv
                                with hv | hv
          · exact (pk v hv).vk
          · rcases List.mem_cons.mp hv with rfl | hv
            · exact ivk
            · rw [List.mem_singleton.mp hv]
              exact (fm _ (List.mem_append_right _ (by simp))).vk
        · rw [List.mem_singleton.mp hv]
          exact (fm _ (List.mem_append_right _ (by simp))).vk
    · rcases List.mem_cons.mp hv with rfl | hv
      · exact rvk
      rcases List.mem_cons.mp hv
                              with rfl | hv
      · exact (fm _ (List.mem_append_right _ (by simp))).vk
      · rw [List.mem_singleton.mp hv]
        exact (fm _ (List.mem_append_right _ (by simp))).vk
  · rw [values_is]
    have st0 : sPar 6 7 (lC (mBt (fTupD) (lC (mV 1) (lN))) (lC (m2 (fIxD ns) (mV 1) (mC (.int 0))) (lN))) [some (.loc 0), some (SU i), some (.dat (.tuple [a, b, c])), none, none, none, none, none, none] [fd d s] = .nx (Sv i (.tuple [a, b, c]) none none none none) [fd d s] :=
      par_to (mBt_to (us := [SU i]) rfl (tup_at i _)) (ix0_at ns _ _ i hi rfl)
    have st1 := asg_to (i := 3) (first_at i a b c none none none none [fd d s])
    have st2 := asg_to (i := 4) (td3_to (p := .str "if") (q := sm i) (r := x) (A := mC (.str "if")) (h := [fd d s]) rfl (sm_at ns (.tuple [a, b, c]) (some (.dat (.list O))) none none none [fd d s] i hi) (mCall_to (d := d_law_pick ns) (l03_v i (.tuple [a, b, c]) O none none none [fd d s]) (e1 [])) (pds_if i x))
    have st3 := asg_to (i := 3) (m2_to (f := fAddD) (v3_v i (.tuple [a, b, c]) O (some (.dat (ifR (sm i) x))) none none [fd d1 s1]) (o1_at ns (.tuple [a, b, c]) x (some (.dat (.list O))) none none [fd d1 s1] i hi) (add_list O _ (by simp; omega) _))
    have st4 := asg_to (i := 3) (m2_to (f := fAddD) (v3_v i (.tuple [a, b, c]) O1 (some (.dat (ifR (sm i) x))) none none [fd d1 s1]) (o2_at ns (.tuple [a, b, c]) (some (.dat (.list O1))) (some (.dat (ifR (sm i) x))) none none [fd d1 s1] i hi) (add_list O1 _ (by simp [O1]; omega) _))
    have st5 := asg_to (i := 5) (m2_to (f := fAddD) (in_at i (.tuple [a, b, c]) (sm i) x (some (.dat (.list O2))) none none [fd d1 s1]) (lc_to (vs := [8]) (eight _ _) (by rw [upI_len]; unfold lim; omega) e2) (add_list [ifR (sm i) x] xs (by simp [xl]) _))
    have st6 := ret_to (m2_to (f := fAddD) (v5_v i (.tuple [a, b, c]) (some (.dat (.list O2))) (some (.dat (ifR (sm i) x))) none (.dat (.list ([ifR (sm i) x] ++ xs))) [fd d2 s2]) (end_at i a b c (some (.dat (.list O2))) (some (.dat (ifR (sm i) x))) (some (.dat (.list ([ifR (sm i) x] ++ xs)))) none [fd d2 s2]) (add_list ([ifR (sm i) x] ++ xs) _ (by simp [xl]) _))
    refine (seq_to st0).trans ((seq_to st1).trans ?_)
    rw [set3_v, pre]
    unfold restV
    rw [set4_v] at st2
    rw [set3_v] at st3 st4
    rw [set5_v] at st5
    exact (seq_to st2).trans ((seq_to st3).trans ((seq_to st4).trans ((seq_to st5).trans st6)))
end Law

set_option Elab.async false
set_option linter.all false
set_option maxRecDepth 1000000
set_option maxHeartbeats 0
namespace Law
open PySem PySem.Spec PyProof.Rows L2 Vm
/-! ### one value, one pattern, one that is none -/
abbrev Sw (n : Nat) (i : Nat) (E r : U) (x1 x5 x7 x8 x9 x10 x11 x12 x13 x14 : Option U) : Sl := [some .scr, x1, some (.loc n), some (SU i), some E, x5, some r, x7, x8, x9, x10, x11, x12, x13, x14]
section
variable {ns : List Int} {i n : Nat} {E r u : U} {x1 x5 x7 x8 x9 x10 x11 x12 x13 x14 : Option U} {h : Mh}
theorem repr_at {c dp : Nat} {v : PyData} (s : Sk c dp v) (hd : dp ≤ 60) (hc : c ≤ 100000) (h : Mh) : fRepr [ofPd v] h = .ok (.str v.shown) h := by
  unfold fRepr
  simp only [Vm.rd_of, s.repr hd hc, if_true]
theorem ne_str {x : Str} (s : PyData.strOk x = true) (h : Mh) : fNe (.str x) (.str x) h = .ok (.bl false) h := by
  have e1 : SeqAt.shaped (.str x) = true := (Lf.str s).shaped
  have e3 : rd h deep (.str x) = some (.str x) := Vm.rd_of h deep (.str x)
  unfold fNe fEqB
  simp only [e3, e1, Bool.and_self, if_true, eqv_str, decide_true, Bool.not_true]
theorem ne_bl (b : Bool) (h : Mh) : fNe (.bl b) (.bl b) h = .ok (.bl false) h := by cases b <;> rfl
theorem isi_bl (b : Bool) (h : Mh) : fIsi "bool" (.bl b) h = .ok (.bl true) h := by rfl
abbrev reprM : Me := mBt (fRepr) (lC (mV 7) (lN))
abbrev ruleM (ns : List Int) : Me := mCall (d_p_is_rule ns)  (lC (mV 3) (lC (mV 7) (lN)))
abbrev lawM (ns : List Int) : Me := mCall (d_law_is ns)  (lC (mV 3) (lC (mV 7) (lC (mC (.bl true)) (lN))))
def valB (ns : List Int) : Ms := sSeq (sPar3 12 13 14 (lC reprM (lC (ruleM ns) (lC (lawM ns) (lN)))))
    (sSeq (sIf (bOr (bNot (bT (m1 (fIsi "bool") (mV 13)))) (bOr (bV (m2 fNe (mV 13) (mV 14))) (bV (m2 fNe reprM (mV 12))))) (sRet (mC (.bl false))) (sPass))
    (sIf (bAnd (bNot (bT (mV 14))) (bV (m2 fNe (mCall (d_law_raised ns)  (lC (mV 3) (lC (mV 7) (lC (mC .non) (lN))))) (mTd (lC (mC (.str "rule")) (lC (mC (.int 0)) (lN))))))) (sRet (mC (.bl false))) (sPass)))
theorem ne_rule (h : Mh) : fNe (.dat (.tuple [.str "rule", .int 0])) (.dat (.tuple [.str "rule", .int 0])) h = .ok (.bl false) h := by kernel_rfl
theorem val_at {v : PyData} (k : Vk ns i v) : ∃ y12 y13 y14, valB ns (Sw n i E r x1 x5 (some (ofPd v)) x8 x9 x10 x11 x12 x13 x14) h = .nx (Sw n i E r x1 x5 (some (ofPd v)) x8 x9 x10 x11 y12 y13 y14) h := by
  obtain ⟨⟨b, hb⟩, sk⟩ := k
  have rp : ∀ y12 y13 y14, reprM (Sw n i E r x1 x5 (some (ofPd v)) x8 x9 x10 x11 y12 y13 y14) h = .ok (.str v.shown) h := fun y12 y13 y14 => mBt_to (us := [ofPd v]) rfl (repr_at sk (by decide) (by decide) h)
  have st1 := par3_to (i := 12) (j := 13) (k := 14) (rp x12 x13 x14) (mCall_to (d := d_p_is_rule ns) (a := lC (mV 3) (lC (mV 7) (lN))) (us := [SU i, ofPd v]) (h1 := h) rfl (runP_ok hb.1 h)) (mCall_to (d := d_law_is ns) (a := lC (mV 3) (lC (mV 7) (lC (mC (.bl true)) (lN)))) (us := [SU i, ofPd v, .bl true]) (h1 := h) rfl (runP_ok hb.2 h))
  let S' := Sw n i E r x1 x5 (some (ofPd v)) x8 x9 x10 x11 (some (.str v.shown)) (some (.bl b)) (some (.bl b))
  have v12 : mV 12 S' h = .ok (.str v.shown) h := rfl
  have v13 : mV 13 S' h = .ok (.bl b) h := rfl
  have v14 : mV 14 S' h = .ok (.bl b) h := rfl
  have c1 := or_to (bNot_to (bT_to (m1_to v13 (isi_bl b h)))) (fun _ => or_to (ne_to v13 v14 (ne_bl b h)) (fun _ => ne_to (rp (some (.str v.shown)) (some (.bl b)) (some (.bl b))) v12 (ne_str sk.so h)))
  have c2 := and_to (y := false) (bNot_to (bT_to v14)) (fun z => ne_to (A := mCall (d_law_raised ns)  (lC (mV 3) (lC (mV 7) (lC (mC .non) (lN))))) (B := mTd (lC (mC (.str "rule")) (lC (mC (.int 0)) (lN)))) (S := S') (h := h)
    (mCall_to (us := [SU i, ofPd v, ofPd .none]) (h1 := h) rfl (runP_ok (raised_ex (keeps_no (q := .none) (by
      have : b = false := by cases b with
        | true => cases z
        | false => rfl
      rw [← this]
      exact hb.1)) (.inl ⟨rfl, rfl, rfl⟩)) h)) rfl (ne_rule h))
  rw [Bool.and_false] at c2
  exact ⟨some (.str v.shown), some (.bl b), some (.bl b), (seq_to st1).trans ((seq_to (if_f c1)).trans (if_f c2))⟩
abbrev keepM (ns : List Int) : Me := mBt (fRepr) (lC (mCall (d_p_keeps ns)  (lC (mBt (fLstD) (lC (mV 3) (lN))) (lC (mV 6) (lC (mV 11) (lN))))) (lN))
abbrev lkeepM (ns : List Int) : Me := mBt (fRepr) (lC (mCall (d_law_keeps ns)  (lC (mV 3) (lC (mV 6) (lC (mV 11) (lN))))) (lN))
def nthB (ns : List Int) : Ms := sSeq (sAsg (mCall (d_law_pick ns)  (lC (mV 2) (lC (mV 4) (lN)))) (gtN 11))
    (sIf (bV (m2 fNe (keepM ns) (lkeepM ns))) (sRet (mC (.bl false))) (sPass))
theorem lst_at (i : Nat) (h : Mh) : fLstD [SU i] h = .ok (SU i) h := by
  show newL (((Ls i).map PyData.str).map ofPd) h = _
  exact newL_of _ _
theorem nth_look {rr q : PyData} {b : Bool} (k1 : p_p_keeps ns [SU i, ofPd rr, ofPd q] = .ok (.bl b)) (k2 : p_law_keeps ns [SU i, ofPd rr, ofPd q] = .ok (.bl b)) : bV (m2 fNe (keepM ns) (lkeepM ns)) (Sw n i E (ofPd rr) x1 x5 x7 x8 x9 x10 (some (ofPd q)) x12 x13 x14) h = .ok false h := by
  have sb : Sk 40 4 (.bool b) := gd4_sk (bl4 b)
  have rb : fRepr [.bl b] h = .ok (.str (PyData.bool b).shown) h := repr_at sb (by decide) (by decide) h
  have v3 : mV 3 (Sw n i E (ofPd rr) x1 x5 x7 x8 x9 x10 (some (ofPd q)) x12 x13 x14) h = .ok (SU i) h := rfl
  have m : mBt (fLstD) (lC (mV 3) (lN)) (Sw n i E (ofPd rr) x1 x5 x7 x8 x9 x10 (some (ofPd q)) x12 x13 x14) h = .ok (SU i) h := mBt_to (us := [SU i]) rfl (lst_at i h)
  have a1 := mCall_to (d := d_p_keeps ns) (lC_to (us := [ofPd rr, ofPd q]) (L := lC (mV 6) (lC (mV 11) (lN))) m rfl) (runP_ok k1 h)
  have a2 := mCall_to (d := d_law_keeps ns) (a := lC (mV 3) (lC (mV 6) (lC (mV 11) (lN)))) (S := Sw n i E (ofPd rr) x1 x5 x7 x8 x9 x10 (some (ofPd q)) x12 x13 x14) (h := h) (us := [SU i, ofPd rr, ofPd q]) (h1 := h) rfl (runP_ok k2 h)
  exact ne_to (mBt_to (lC_to (L := lN) (us := []) a1 rfl) rb) (mBt_to (lC_to (L := lN) (us := []) a2 rfl) rb) (ne_str sb.so h)
def badB (ns : List Int) : Ms := sIf (bV (m2 fNe (mCall (d_law_raised ns)  (lC (mV 3) (lC (mV 6) (lC (mV 10) (lN))))) (mC (.str "pattern")))) (sRet (mC (.bl false))) (sPass)
theorem ne_pat (h : Mh) : fNe (.str "pattern") (.str "pattern") h = .ok (.bl false) h := by kernel_rfl
theorem bad_at {rr q : PyData} (hr : p_p_is_rule ns [SU i, ofPd rr] = .ok (.bl true)) (hq : p_p_is_pattern ns [.int (many i : Nat), ofPd q] = .ok (.bl false)) : badB ns (Sw n i E (ofPd rr) x1 x5 x7 x8 x9 (some (ofPd q)) x11 x12 x13 x14) h = .nx (Sw n i E (ofPd rr) x1 x5 x7 x8 x9 (some (ofPd q)) x11 x12 x13 x14) h :=
  if_f (ne_to (A := mCall (d_law_raised ns)  (lC (mV 3) (lC (mV 6) (lC (mV 10) (lN))))) (B := mC (.str "pattern")) (mCall_to (us := [SU i, ofPd rr, ofPd q]) (h1 := h) rfl (runP_ok (raised_ex (keeps_bad hr hq) (.inr ⟨rfl, rfl, rfl⟩)) h)) rfl (ne_pat h))
end
abbrev odd1M (ns : List Int) : Me := (mLd (lC (mC .non) (lC (mTd (lN)) (lC (mTd (lC (m2 (fIxD ns) (m2 (fIxD ns) (mV 4) (mC (.int 0))) (mC (.int 0))) (lN))) (lC (mBt (fLstD) (lC (m2 (fIxD ns) (mV 4) (mC (.int 0))) (lN))) (lN))))))
abbrev odd2M (ns : List Int) : Me := (m2 fAddD (mV 9) (mLd (lC (mTd (lC (m2 fAddD (m2 (fIxD ns) (m2 (fIxD ns) (mV 4) (mC (.int 0))) (mC (.int 0))) (mTd (lC (mC (.int 0)) (lN)))) (lC (m2 fAddD (m2 (fIxD ns) (m2 (fIxD ns) (mV 4) (mC (.int 0))) (mC (.int 1))) (mTd (lC (mC (.int 0)) (lN)))) (lN)))) (lN))))
abbrev oddW (ns : List Int) : Mw := (wSeq (m2 fAddD (mV 9) (mCall (d_law_no_patterns ns)  (lC (mBt (fLenD ns) (lC (mV 3) (lN))) (lN)))))
theorem odd1_at0 (ns : List Int) (n : Nat) (r : U) (x1 x5 x7 x8 x9 x10 x11 x12 x13 x14 : Option U) (h : Mh) : odd1M ns (Sw n 0 (.dat (.list (PT 0))) r x1 x5 x7 x8 x9 x10 x11 x12 x13 x14) h = .ok (.dat (.list ((BD 0).take 4))) h := by kernel_rfl
theorem odd1_at1 (ns : List Int) (n : Nat) (r : U) (x1 x5 x7 x8 x9 x10 x11 x12 x13 x14 : Option U) (h : Mh) : odd1M ns (Sw n 1 (.dat (.list (PT 1))) r x1 x5 x7 x8 x9 x10 x11 x12 x13 x14) h = .ok (.dat (.list ((BD 1).take 4))) h := by kernel_rfl
theorem odd1_at2 (ns : List Int) (n : Nat) (r : U) (x1 x5 x7 x8 x9 x10 x11 x12 x13 x14 : Option U) (h : Mh) : odd1M ns (Sw n 2 (.dat (.list (PT 2))) r x1 x5 x7 x8 x9 x10 x11 x12 x13 x14) h = .ok (.dat (.list ((BD 2).take 4))) h := by kernel_rfl
theorem odd1_at3 (ns : List Int) (n : Nat) (r : U) (x1 x5 x7 x8 x9 x10 x11 x12 x13 x14 : Option U) (h : Mh) : odd1M ns (Sw n 3 (.dat (.list (PT 3))) r x1 x5 x7 x8 x9 x10 x11 x12 x13 x14) h = .ok (.dat (.list ((BD 3).take 4))) h := by kernel_rfl
theorem odd1_at4 (ns : List Int) (n : Nat) (r : U) (x1 x5 x7 x8 x9 x10 x11 x12 x13 x14 : Option U) (h : Mh) : odd1M ns (Sw n 4 (.dat (.list (PT 4))) r x1 x5 x7 x8 x9 x10 x11 x12 x13 x14) h = .ok (.dat (.list ((BD 4).take 4))) h := by kernel_rfl
theorem odd1_at5 (ns : List Int) (n : Nat) (r : U) (x1 x5 x7 x8 x9 x10 x11 x12 x13 x14 : Option U) (h : Mh) : odd1M ns (Sw n 5 (.dat (.list (PT 5))) r x1 x5 x7 x8 x9 x10 x11 x12 x13 x14) h = .ok (.dat (.list ((BD 5).take 4))) h := by kernel_rfl
theorem odd1_at (ns : List Int) (n : Nat) (r : U) (x1 x5 x7 x8 x9 x10 x11 x12 x13 x14 : Option U) (h : Mh) : ∀ i, i < 6 → odd1M ns (Sw n i (.dat (.list (PT i))) r x1 x5 x7 x8 x9 x10 x11 x12 x13 x14) h = .ok (.dat (.list ((BD i).take 4))) h :=
  lt6 (odd1_at0 ns n r x1 x5 x7 x8 x9 x10 x11 x12 x13 x14 h) (odd1_at1 ns n r x1 x5 x7 x8 x9 x10 x11 x12 x13 x14 h) (odd1_at2 ns n r x1 x5 x7 x8 x9 x10 x11 x12 x13 x14 h) (odd1_at3 ns n r x1 x5 x7 x8 x9 x10 x11 x12 x13 x14 h) (odd1_at4 ns n r x1 x5 x7 x8 x9 x10 x11 x12 x13 x14 h) (odd1_at5 ns n r x1 x5 x7 x8 x9 x10 x11 x12 x13 x14 h)
theorem odd2_at0 (ns : List Int) (n : Nat) (r : U) (x1 x5 x7 x8 x9 x10 x11 x12 x13 x14 : Option U) (h : Mh) : odd2M ns (Sw n 0 (.dat (.list (PT 0))) r x1 x5 x7 x8 (some (.dat (.list ((BD 0).take 4)))) x10 x11 x12 x13 x14) h = .ok (.dat (.list ((BD 0).take 5))) h := by kernel_rfl
theorem odd2_at1 (ns : List Int) (n : Nat) (r : U) (x1 x5 x7 x8 x9 x10 x11 x12 x13 x14 : Option U) (h : Mh) : odd2M ns (Sw n 1 (.dat (.list (PT 1))) r x1 x5 x7 x8 (some (.dat (.list ((BD 1).take 4)))) x10 x11 x12 x13 x14) h = .ok (.dat (.list ((BD 1).take 5))) h := by kernel_rfl
theorem odd2_at2 (ns : List Int) (n : Nat) (r : U) (x1 x5 x7 x8 x9 x10 x11 x12 x13 x14 : Option U) (h : Mh) : odd2M ns (Sw n 2 (.dat (.list (PT 2))) r x1 x5 x7 x8 (some (.dat (.list ((BD 2).take 4)))) x10 x11 x12 x13 x14) h = .ok (.dat (.list ((BD 2).take 5))) h := by kernel_rfl
theorem odd2_at3 (ns : List Int) (n : Nat) (r : U) (x1 x5 x7 x8 x9 x10 x11 x12 x13 x14 : Option U) (h : Mh) : odd2M ns (Sw n 3 (.dat (.list (PT 3))) r x1 x5 x7 x8 (some (.dat (.list ((BD 3).take 4)))) x10 x11 x12 x13 x14) h = .ok (.dat (.list ((BD 3).take 5))) h := by kernel_rfl
theorem odd2_at4 (ns : List Int) (n : Nat) (r : U) (x1 x5 x7 x8 x9 x10 x11 x12 x13 x14 : Option U) (h : Mh) : odd2M ns (Sw n 4 (.dat (.list (PT 4))) r x1 x5 x7 x8 (some (.dat (.list ((BD 4).take 4)))) x10 x11 x12 x13 x14) h = .ok (.dat (.list ((BD 4).take 5))) h := by kernel_rfl
theorem odd2_at5 (ns : List Int) (n : Nat) (r : U) (x1 x5 x7 x8 x9 x10 x11 x12 x13 x14 : Option U) (h : Mh) : odd2M ns (Sw n 5 (.dat (.list (PT 5))) r x1 x5 x7 x8 (some (.dat (.list ((BD 5).take 4)))) x10 x11 x12 x13 x14) h = .ok (.dat (.list ((BD 5).take 5))) h := by kernel_rfl
theorem odd2_at (ns : List Int) (n : Nat) (r : U) (x1 x5 x7 x8 x9 x10 x11 x12 x13 x14 : Option U) (h : Mh) : ∀ i, i < 6 → odd2M ns (Sw n i (.dat (.list (PT i))) r x1 x5 x7 x8 (some (.dat (.list ((BD i).take 4)))) x10 x11 x12 x13 x14) h = .ok (.dat (.list ((BD i).take 5))) h :=
  lt6 (odd2_at0 ns n r x1 x5 x7 x8 x9 x10 x11 x12 x13 x14 h) (odd2_at1 ns n r x1 x5 x7 x8 x9 x10 x11 x12 x13 x14 h) (odd2_at2 ns n r x1 x5 x7 x8 x9 x10 x11 x12 x13 x14 h) (odd2_at3 ns n r x1 x5 x7 x8 x9 x10 x11 x12 x13 x14 h) (odd2_at4 ns n r x1 x5 x7 x8 x9 x10 x11 x12 x13 x14 h) (odd2_at5 ns n r x1 x5 x7 x8 x9 x10 x11 x12 x13 x14 h)
theorem odd3_at0 (ns : List Int) (n : Nat) (r : U) (x1 x5 x7 x8 x9 x10 x11 x12 x13 x14 : Option U) (h : Mh) : oddW ns (Sw n 0 (.dat (.list (PT 0))) r x1 x5 x7 x8 (some (.dat (.list ((BD 0).take 5)))) x10 x11 x12 x13 x14) h = .ok ((BD 0).map ofPd) h := by kernel_rfl
theorem odd3_at1 (ns : List Int) (n : Nat) (r : U) (x1 x5 x7 x8 x9 x10 x11 x12 x13 x14 : Option U) (h : Mh) : oddW ns (Sw n 1 (.dat (.list (PT 1))) r x1 x5 x7 x8 (some (.dat (.list ((BD 1).take 5)))) x10 x11 x12 x13 x14) h = .ok ((BD 1).map ofPd) h := by kernel_rfl
theorem odd3_at2 (ns : List Int) (n : Nat) (r : U) (x1 x5 x7 x8 x9 x10 x11 x12 x13 x14 : Option U) (h : Mh) : oddW ns (Sw n 2 (.dat (.list (PT 2))) r x1 x5 x7 x8 (some (.dat (.list ((BD 2).take 5)))) x10 x11 x12 x13 x14) h = .ok ((BD 2).map ofPd) h := by kernel_rfl
theorem odd3_at3 (ns : List Int) (n : Nat) (r : U) (x1 x5 x7 x8 x9 x10 x11 x12 x13 x14 : Option U) (h : Mh) : oddW ns (Sw n 3 (.dat (.list (PT 3))) r x1 x5 x7 x8 (some (.dat (.list ((BD 3).take 5)))) x10 x11 x12 x13 x14) h = .ok ((BD 3).map ofPd) h := by kernel_rfl
theorem odd3_at4 (ns : List Int) (n : Nat) (r : U) (x1 x5 x7 x8 x9 x10 x11 x12 x13 x14 : Option U) (h : Mh) : oddW ns (Sw n 4 (.dat (.list (PT 4))) r x1 x5 x7 x8 (some (.dat (.list ((BD 4).take 5)))) x10 x11 x12 x13 x14) h = .ok ((BD 4).map ofPd) h := by kernel_rfl
theorem odd3_at5 (ns : List Int) (n : Nat) (r : U) (x1 x5 x7 x8 x9 x10 x11 x12 x13 x14 : Option U) (h : Mh) : oddW ns (Sw n 5 (.dat (.list (PT 5))) r x1 x5 x7 x8 (some (.dat (.list ((BD 5).take 5)))) x10 x11 x12 x13 x14) h = .ok ((BD 5).map ofPd) h := by kernel_rfl
theorem odd3_at (ns : List Int) (n : Nat) (r : U) (x1 x5 x7 x8 x9 x10 x11 x12 x13 x14 : Option U) (h : Mh) : ∀ i, i < 6 → oddW ns (Sw n i (.dat (.list (PT i))) r x1 x5 x7 x8 (some (.dat (.list ((BD i).take 5)))) x10 x11 x12 x13 x14) h = .ok ((BD i).map ofPd) h :=
  lt6 (odd3_at0 ns n r x1 x5 x7 x8 x9 x10 x11 x12 x13 x14 h) (odd3_at1 ns n r x1 x5 x7 x8 x9 x10 x11 x12 x13 x14 h) (odd3_at2 ns n r x1 x5 x7 x8 x9 x10 x11 x12 x13 x14 h) (odd3_at3 ns n r x1 x5 x7 x8 x9 x10 x11 x12 x13 x14 h) (odd3_at4 ns n r x1 x5 x7 x8 x9 x10 x11 x12 x13 x14 h) (odd3_at5 ns n r x1 x5 x7 x8 x9 x10 x11 x12 x13 x14 h)
end Law

set_option Elab.async false
set_option linter.all false
set_option maxRecDepth 100000
set_option maxHeartbeats 4100000
namespace Law
open PySem PySem.Spec PyProof.Rows L2 Vm
theorem atI_at {α : Type} {xs : List α} {i : Nat} (h : i < xs.length) : atI xs (i : Nat) = some xs[i] := by
  have z1 : ixN xs.length (i : Int) = some i := by
    simp [slotsOf, sSeq, sIf, sAsg, sRet, sRetN, sE, sPut, Vm.putIn, bV, bNot, bAnd, bOr, m2, m1, mV, mC, mBt, mCall, lC, lN, R.bind, R.bindS, fIxD, seqOf, fGt, fLt, fLe, fGe, fSub, fMod, fDiv, fPow, fI, asB, fInt, gtN, pureO, pureU, outM, outU, fMulE, fMulD, fAddD, sPass, fAbs, fMax2, fMin2, mIf, mL, newO, fLenD, P0.at, pdOf, ixN]
    omega
  unfold atI
  rw [z1]
  simp [slotsOf, sSeq, sIf, sAsg, sRet, sRetN, sE, sPut, Vm.putIn, bV, bNot, bAnd, bOr, m2, m1, mV, mC, mBt, mCall, lC, lN, R.bind, R.bindS, fIxD, seqOf, fGt, fLt, fLe, fGe, fSub, fMod, fDiv, fPow, fI, asB, fInt, gtN, pureO, pureU, outM, outU, fMulE, fMulD, fAddD, sPass, fAbs, fMax2, fMin2, mIf, mL, newO, fLenD, P0.at, pdOf, List.getElem?_eq_getElem h]
theorem mulF_int {a b : Int} (hb : (-(2 ^ 64) < a ∧ a < 2 ^ 64) ∨ (-(2 ^ 64) < b ∧ b < 2 ^ 64)) (h : Mh) : fMulF (.int a) (.int b) h = .ok (.int (a * b)) h := by
  have d : fMulD (.int a) (.int b) h = .ok (.int (a * b)) h := by
    show (if decide ((-(2 ^ 64) < a ∧ a < 2 ^ 64) ∨ (-(2 ^ 64) < b ∧ b < 2 ^ 64)) then R.ok (U.int (a * b)) h else .stuck) = _
    rw [decide_eq_true hb, if_pos rfl]
  have e : fMulE (.int a) (.int b) h = .ok (.int (a * b)) h := by
    show (if b = 1 then _ else _) = _
    by_cases k : b = 1
    · rw [if_pos k]
      exact d
    · rw [if_neg k]
      exact d
  show (if b = 0 then _ else _) = _
  by_cases k : b = 0
  · rw [if_pos k]
    exact e
  · rw [if_neg k]
    exact e
theorem up_mem : ∀ {n : Nat} {i : Nat} {x : U}, x ∈ upI (i : Nat) n → ∃ j : Nat, x = .int (j : Nat)
  | 0, _, _, h => nomatch h
  | n + 1, i, x, h => by
    rcases List.mem_cons.mp (show x ∈ U.int (i : Nat) :: upI ((i + 1 : Nat) : Int) n from h) with rfl | h
    · exact ⟨i, rfl⟩
    · exact up_mem h
theorem feed_at (ns : List Int) (k : Nat) (h : Mh) : ∃ d s, d_law_feed ns [.scr, .int (k : Nat)] h = .ok (.loc h.length) (h ++ [fd d s]) := by
  have body : ∀ c : Int, ∃ d s, (sSeq (sAsg (mBt (fMax2) (lC (mC (.int 0)) (lC (m2 fSub (mBt (fAbs) (lC (mV 2) (lN))) (m2 fPow (mC (.int 10)) (mC (.int 18)))) (lN)))) (gtN 3))
    (sSeq (sAsg (m2 fMod (mBt (fInt) (lC (m2 fAddD (m2 fAddD (m2 fMulF (mV 2) (mC (.int 6364136223846793005))) (m2 fMulF (mC (.int 7919)) (mV 1))) (mC (.int 1442695040888963407))) (lN))) (mC (.int 2305843009213693951))) (gtN 4))
    (sRet (mL (lC (mV 3) (lC (mV 4) (lN))))))) [some .scr, some (.int (k : Nat)), some (.int c), none, none] h = .rt (.loc h.length) (h ++ [fd d s]) := fun c => by
    have m1 : fMulF (.int c) (.int 6364136223846793005) h = .ok (.int (c * 6364136223846793005)) h := mulF_int (.inr (by decide)) h
    have m2' : fMulF (.int 7919) (.int (k : Nat)) h = .ok (.int (7919 * k)) h := mulF_int (.inl (by decide)) h
    have m3 : fPow (.int 10) (.int 18) h = .ok (.int (10 ^ 18)) h := by rfl
    refine ⟨(if ((if c < 0 then -c else c) - 10 ^ 18) > 0 then (if c < 0 then -c else c) - 10 ^ 18 else 0), (c * 6364136223846793005 + 7919 * k + 1442695040888963407) % 2305843009213693951, ?_⟩
    simp only [sSeq, sAsg, mBt, lC, mC, m2, mV, lN, List.getElem?_cons_zero, List.getElem?_cons_succ, R.bind, R.bindS, fAbs, m3, fSub, fI, if_true, fMax2, gtN, List.set, m1, m2', fAddD, fInt, fMod]
    rfl
  have first : ∃ c : Int, sAsg (mIf (bV (m2 fLt (mV 1) (mBt (fLenD ns) (lC (mV 0) (lN))))) (m2 (fIxD ns) (mV 0) (mV 1)) (m2 fAddD (m2 fMulF (mC (.int 61)) (mV 1)) (mC (.int 17)))) (gtN 2) [some .scr, some (.int (k : Nat)), none, none, none] h = .nx [some .scr, some (.int (k : Nat)), some (.int c), none, none] h := by
    have q : fLenD ns [.scr] h = .ok (.int ns.length) h := rfl
    by_cases hk : (k : Int) < ns.length
    · have q2 : fIxD ns .scr (.int (k : Nat)) h = .ok (.int (ns[k]'(by omega))) h := by
        have := atI_at (xs := ns) (i := k) (by omega)
        show (match atI ns (k : Int) with
          | some k => R.ok (U.int k) h
          | none => .stuck) = _
        rw [this]
      refine ⟨ns[k]'(by omega), ?_⟩
      simp only [sAsg, mIf, bV, m2, mV, mBt, lC, lN, List.getElem?_cons_zero, List.getElem?_cons_succ, R.bind, R.bindS, q, fLt, fI, if_true, asB, decide_eq_true hk, q2, gtN, List.set]
    · have m2' : fMulF (.int 61) (.int (k : Nat)) h = .ok (.int (61 * k)) h := mulF_int (.inl (by decide)) h
      refine ⟨61 * k + 17, ?_⟩
      simp only [sAsg, mIf, bV, m2, mV, mC, mBt, lC, lN, List.getElem?_cons_zero, List.getElem?_cons_succ, R.bind, R.bindS, q, fLt, fI, if_true, asB, decide_eq_false hk, m2', fAddD, gtN, List.set]
  obtain ⟨c, e1⟩ := first
  obtain ⟨d, s, e2⟩ := body c
  refine ⟨d, s, ?_⟩
  show finR (m_law_feed ns [some .scr, some (.int (k : Nat)), none, none, none] h) = _
  unfold m_law_feed
  rw [sSeq, e1]
  simp only
  rw [e2]
  rfl
section
variable {ns : List Int} {n i : Nat} {h h1 : Mh} {S S1 S2 S' : Sl} {h2 h' : Mh} {t : Gt} {b : Ms} {u : U} {us : List U}
theorem for_to {m : Mw} (w : m S h = .ok us h1) (z : us.length < lim) (e : loopF t b us S h1 = .nx S' h') : sForF m t b S h = .nx S' h' := by
  simp only [sForF, w, R.bindS, decide_eq_true z, if_true, e]
theorem loop_cons (e1 : t u S h = some S1) (e2 : b S1 h = .nx S2 h2) : loopF t b (u :: us) S h = loopF t b us S2 h2 := by
  rw [loopF, e1]
  simp only [e2]
theorem walk_to {A : Me} {ds : List PyData} (e : A S h = .ok (.dat (.list ds)) h1) : wSeq A S h = .ok (ds.map ofPd) h1 := by
  show ((A S h).bind fun u h1 => match vSeq u with
    | some l => R.ok l h1
    | none => .stuck) = _
  rw [e]
  rfl
theorem few_to (k : Nat) (hk : k < 1000) (z : S = S) (w : lC (mC (.int (k : Nat))) (lN) S h = .ok [.int (k : Nat)] h) : wR1 (lC (mC (.int (k : Nat))) (lN)) S h = .ok (upI 0 k) h := wR1_at w (vR1_nat k hk)
theorem pick_at (f : Fd h n) {ds : List PyData} (hd : ds ≠ []) (hl : ds.length < 1073741824) : ∃ x ∈ ds, ∃ h', Fd h' n ∧ d_law_pick ns [.loc n, .dat (.list ds)] h = .ok (ofPd x) h' := by
  obtain ⟨d, s, e⟩ := f
  obtain ⟨x, hx, d', s', q⟩ := p_pick ns d s hd hl
  refine ⟨x, hx, h.set n (fd d' s'), Fd.set ⟨d, s, e⟩ d' s', ?_⟩
  unfold d_law_pick
  exact runM_at e rfl rfl q
theorem rule_at (f : Fd h n) (hi : i < 6) : ∃ r, Rule i r ∧ ∃ h', Fd h' n ∧ d_law_drawn_rule ns [.loc n, SU i] h = .ok (ofPd r) h' := by
  obtain ⟨d, s, e⟩ := f
  obtain ⟨r, hr, d', s', q⟩ := p_rule ns d s hi
  refine ⟨r, hr, h.set n (fd d' s'), Fd.set ⟨d, s, e⟩ d' s', ?_⟩
  unfold d_law_drawn_rule
  exact runM_at e rfl rfl q
theorem values_at (f : Fd h n) (hi : i < 6) {r : PyData} (hr : Rule i r) : ∃ vs, (∀ v ∈ vs, Vk ns i v) ∧ vs.length < 100 ∧ ∃ h', Fd h' n ∧ d_law_values ns [.loc n, SU i, ofPd r] h = .ok (.dat (.list vs)) h' := by
  obtain ⟨d, s, e⟩ := f
  obtain ⟨vs, h1, h2, d', s', q⟩ := p_values ns d s hi hr
  refine ⟨vs, h1, h2, h.set n (fd d' s'), Fd.set ⟨d, s, e⟩ d' s', ?_⟩
  unfold d_law_values
  exact runM_at e rfl (by
    show (pureU (SU i) && (pureU (ofPd r) && true)) = true
    rw [pu_of]
    rfl) q
end
abbrev Sy (n : Nat) (i : Nat) (E : U) (x1 x5 x6 x7 x8 x9 x10 x11 x12 x13 x14 : Option U) : Sl := [some .scr, x1, some (.loc n), some (SU i), some E, x5, x6, x7, x8, x9, x10, x11, x12, x13, x14]
section
variable {ns : List Int} {i n : Nat} {E : U} {x1 x5 x6 x8 x9 x10 : Option U}
theorem vals_loop {r : U} {x11 : Option U} (h : Mh) : ∀ (vs : List PyData) (x7 x12 x13 x14 : Option U), (∀ v ∈ vs, Vk ns i v) → ∃ y7 y12 y13 y14, loopF (gtN 7) (valB ns) (vs.map ofPd) (Sw n i E r x1 x5 x7 x8 x9 x10 x11 x12 x13 x14) h = .nx (Sw n i E r x1 x5 y7 x8 x9 x10 x11 y12 y13 y14) h
  | [], x7, x12, x13, x14, _ => ⟨x7, x12, x13, x14, rfl⟩
  | v :: vs, x7, x12, x13, x14, k => by
    obtain ⟨y12, y13, y14, e⟩ := val_at (E := E) (r := r) (n := n) (x1 := x1) (x5 := x5) (x8 := x8) (x9 := x9) (x10 := x10) (x11 := x11) (x12 := x12) (x13 := x13) (x14 := x14) (h := h) (k v List.mem_cons_self)
    obtain ⟨z7, z12, z13, z14, e2⟩ := vals_loop h vs (some (ofPd v)) y12 y13 y14 (fun w hw => k w (List.mem_cons_of_mem _ hw))
    exact ⟨z7, z12, z13, z14, (loop_cons rfl e).trans e2⟩
theorem nth_loop {rr : PyData} (hi : i < 6) (hr : Rule i rr) {P : List PyData} (ne : P ≠ []) (few : P.length < 1000) (kp : ∀ q ∈ P, ∃ b, p_p_keeps ns [SU i, ofPd rr, ofPd q] = .ok (.bl b) ∧ p_law_keeps ns [SU i, ofPd rr, ofPd q] = .ok (.bl b)) {x7 x12 x13 x14 : Option U} : ∀ (us : List U) (h : Mh) (y8 x11 : Option U), Fd h n → ∃ z8 y11 h', Fd h' n ∧ loopF (gtN 8) (nthB ns) us (Sw n i (.dat (.list P)) (ofPd rr) x1 x5 x7 y8 x9 x10 x11 x12 x13 x14) h = .nx (Sw n i (.dat (.list P)) (ofPd rr) x1 x5 x7 z8 x9 x10 y11 x12 x13 x14) h'
  | [], h, y8, x11, f => ⟨y8, x11, h, f, rfl⟩
  | u :: us, h, y8, x11, f => by
    obtain ⟨q, hq, h1, f1, e1⟩ := pick_at (ns := ns) f ne (by omega)
    obtain ⟨b, k1, k2⟩ := kp q hq
    have st := asg_to (i := 11) (mCall_to (d := d_law_pick ns) (a := lC (mV 2) (lC (mV 4) (lN))) (S := Sw n i (.dat (.list P)) (ofPd rr) x1 x5 x7 (some u) x9 x10 x11 x12 x13 x14) (h := h) (us := [.loc n, .dat (.list P)]) (h1 := h) rfl e1)
    have lk := nth_look (n := n) (E := .dat (.list P)) (x1 := x1) (x5 := x5) (x7 := x7) (x8 := some u) (x9 := x9) (x10 := x10) (x12 := x12) (x13 := x13) (x14 := x14) (h := h1) k1 k2
    have e : nthB ns (Sw n i (.dat (.list P)) (ofPd rr) x1 x5 x7 (some u) x9 x10 x11 x12 x13 x14) h = .nx (Sw n i (.dat (.list P)) (ofPd rr) x1 x5 x7 (some u) x9 x10 (some (ofPd q)) x12 x13 x14) h1 := (seq_to st).trans (if_f lk)
    obtain ⟨z8, y11, h', f', e2⟩ := nth_loop hi hr ne few kp us h1 (some u) (some (ofPd q)) f1
    exact ⟨z8, y11, h', f', (loop_cons rfl e).trans e2⟩
theorem bad_loop {rr : PyData} (hr : p_p_is_rule ns [SU i, ofPd rr] = .ok (.bl true)) {x7 x11 x12 x13 x14 : Option U} (h : Mh) : ∀ (qs : List PyData) (y10 : Option U), (∀ q ∈ qs, p_p_is_pattern ns [.int (many i : Nat), ofPd q] = .ok (.bl false)) → ∃ z10, loopF (gtN 10) (badB ns) (qs.map ofPd) (Sw n i E (ofPd rr) x1 x5 x7 x8 x9 y10 x11 x12 x13 x14) h = .nx (Sw n i E (ofPd rr) x1 x5 x7 x8 x9 z10 x11 x12 x13 x14) h
  | [], y10, _ => ⟨y10, rfl⟩
  | q :: qs, y10, k => by
    obtain ⟨z10, e2⟩ := bad_loop hr h qs (some (ofPd q)) (fun w hw => k w (List.mem_cons_of_mem _ hw))
    have e := bad_at (n := n) (E := E) (x1 := x1) (x5 := x5) (x7 := x7) (x8 := x8) (x9 := x9) (x11 := x11) (x12 := x12) (x13 := x13) (x14 := x14) (h := h) hr (k q List.mem_cons_self)
    exact ⟨z10, (loop_cons rfl e).trans e2⟩
end
end Law

set_option Elab.async false
set_option linter.all false
set_option maxRecDepth 100000
set_option maxHeartbeats 4100000
namespace Law
open PySem PySem.Spec PyProof.Rows L2 Vm
theorem k_ptl0 : (Nat.ble (PT 0).length 100 && !(PT 0).isEmpty) = true := by kernel_rfl
theorem k_ptl1 : (Nat.ble (PT 1).length 100 && !(PT 1).isEmpty) = true := by kernel_rfl
theorem k_ptl2 : (Nat.ble (PT 2).length 100 && !(PT 2).isEmpty) = true := by kernel_rfl
theorem k_ptl3 : (Nat.ble (PT 3).length 100 && !(PT 3).isEmpty) = true := by kernel_rfl
theorem k_ptl4 : (Nat.ble (PT 4).length 100 && !(PT 4).isEmpty) = true := by kernel_rfl
theorem k_ptl5 : (Nat.ble (PT 5).length 100 && !(PT 5).isEmpty) = true := by kernel_rfl
theorem k_ptl : ∀ i, i < 6 → (Nat.ble (PT i).length 100 && !(PT i).isEmpty) = true := lt6 k_ptl0 k_ptl1 k_ptl2 k_ptl3 k_ptl4 k_ptl5
theorem pt_few {i : Nat} (hi : i < 6) : PT i ≠ [] ∧ (PT i).length < 1000 := by
  have h := k_ptl i hi
  rw [Bool.and_eq_true] at h
  have h1 := Nat.ble_eq.mp h.1
  refine ⟨fun e => ?_, by omega⟩
  have h2 := h.2
  rw [e] at h2
  cases h2
theorem bd_few (i : Nat) : ((BD i).map ofPd).length < lim := by
  rw [List.length_map]
  show 10 < lim
  unfold lim
  omega
theorem pt_keeps {ns : List Int} {i : Nat} (hi : i < 6) {r : PyData} (hr : Rule i r) : ∀ q ∈ PT i, ∃ b, p_p_keeps ns [SU i, ofPd r, ofPd q] = .ok (.bl b) ∧ p_law_keeps ns [SU i, ofPd r, ofPd q] = .ok (.bl b) := by
  intro q hq
  have pt : p_p_is_pattern ns [.int (many i : Nat), ofPd q] = .ok (.bl true) := okIs_eq (List.all_eq_true.mp (k_pat ns i hi) q hq)
  obtain ⟨⟨h, g⟩, hp, rfl⟩ := List.mem_map.mp hq
  obtain ⟨b, k1, k2⟩ := rule_kept (ns := ns) hi hp hr
  exact ⟨b, keeps_at (q := encP (h, g)) (hr.vb hi).1 pt k1, k2⟩
def turnB (ns : List Int) : Ms := sSeq (sAsg (mCall (d_law_drawn_rule ns)  (lC (mV 2) (lC (mV 3) (lN)))) (gtN 6))
    (sSeq (sForF (wSeq (mCall (d_law_values ns)  (lC (mV 2) (lC (mV 3) (lC (mV 6) (lN)))))) (gtN 7) (valB ns))
    (sSeq (sForF (wR1 (lC (mC (.int 6)) (lN))) (gtN 8) (nthB ns))
    (sSeq (sAsg (odd1M ns) (gtN 9))
    (sSeq (sAsg (odd2M ns) (gtN 9))
    (sForF (oddW ns) (gtN 10) (badB ns))))))
def cellB (ns : List Int) : Ms := sSeq (sAsg (mCall (d_law_feed ns)  (lC (mV 0) (lC (mV 1) (lN)))) (gtN 2))
    (sSeq (sAsg (mCall (d_law_pick ns)  (lC (mV 2) (lC (mCall0 (d_law_step_lists ns) ) (lN)))) (gtN 3))
    (sSeq (sAsg (mCall (d_law_patterns ns)  (lC (mBt (fLenD ns) (lC (mV 3) (lN))) (lN))) (gtN 4))
    (sForF (wR1 (lC (mC (.int 5)) (lN))) (gtN 5) (turnB ns))))
theorem law_is (ns : List Int) : m_p_law ns = sSeq (sForF (wR1 (lC (mBt (fMax2) (lC (mC (.int 1)) (lC (mBt (fMin2) (lC (mC (.int 3)) (lC (mBt (fLenD ns) (lC (mV 0) (lN))) (lN)))) (lN)))) (lN))) (gtN 1) (cellB ns)) (sRet (mC (.bl true))) := rfl
theorem lim8 {k : Nat} (h : k < 1000) : (upI 0 k).length < lim := by
  rw [upI_len]
  unfold lim
  omega
theorem turn_at {ns : List Int} {n i : Nat} (hi : i < 6) {h : Mh} (f : Fd h n) {x1 x5 x6 x7 x8 x9 x10 x11 x12 x13 x14 : Option U} : ∃ y6 y7 y8 y9 y10 y11 y12 y13 y14 h', Fd h' n ∧ turnB ns (Sy n i (.dat (.list (PT i))) x1 x5 x6 x7 x8 x9 x10 x11 x12 x13 x14) h = .nx (Sy n i (.dat (.list (PT i))) x1 x5 y6 y7 y8 y9 y10 y11 y12 y13 y14) h' := by
  obtain ⟨r, hr, h1, f1, e1⟩ := rule_at (ns := ns) f hi
  obtain ⟨vs, hv, vl, h2, f2, e2⟩ := values_at (ns := ns) f1 hi hr
  have o1 := fun x7 x8 x9 x11 x12 x13 x14 h => odd1_at ns n (ofPd r) x1 x5 x7 x8 x9 x10 x11 x12 x13 x14 h i hi
  have o2 := fun x7 x8 x9 x11 x12 x13 x14 h => odd2_at ns n (ofPd r) x1 x5 x7 x8 x9 x10 x11 x12 x13 x14 h i hi
  have o3 := fun x7 x8 x9 x11 x12 x13 x14 h => odd3_at ns n (ofPd r) x1 x5 x7 x8 x9 x10 x11 x12 x13 x14 h i hi
  have bl := bd_few i
  have kb := fun q hq => okIs_eq (List.all_eq_true.mp (k_bad ns i hi) q hq)
  have kp := pt_keeps (ns := ns) hi hr
  obtain ⟨ne, few⟩ := pt_few hi
  generalize PT i = P at o1 o2 o3 kp ne few ⊢
  generalize BD i = B at o1 o2 o3 bl kb
  have st1 := asg_to (i := 6) (mCall_to (d := d_law_drawn_rule ns) (a := lC (mV 2) (lC (mV 3) (lN))) (S := Sy n i (.dat (.list P)) x1 x5 x6 x7 x8 x9 x10 x11 x12 x13 x14) (h := h) (us := [.loc n, SU i]) (h1 := h) rfl e1)
  obtain ⟨y7, y12, y13, y14, e3⟩ := vals_loop (ns := ns) (i := i) (n := n) (E := .dat (.list P)) (r := ofPd r) (x1 := x1) (x5 := x5) (x8 := x8) (x9 := x9) (x10 := x10) (x11 := x11) h2 vs x7 x12 x13 x14 hv
  have st2 := for_to (walk_to (mCall_to (d := d_law_values ns) (a := lC (mV 2) (lC (mV 3) (lC (mV 6) (lN)))) (S := Sw n i (.dat (.list P)) (ofPd r) x1 x5 x7 x8 x9 x10 x11 x12 x13 x14) (h := h1) (us := [.loc n, SU i, ofPd r]) (h1 := h1) rfl e2)) (by rw [List.length_map]; unfold lim; omega) e3
  obtain ⟨y8, y11, h3, f3, e4⟩ := nth_loop (ns := ns) (n := n) (x1 := x1) (x5 := x5) (x9 := x9) (x10 := x10) hi hr ne few kp (x7 := y7) (x12 := y12) (x13 := y13) (x14 := y14) (upI 0 6) h2 x8 x11 f2
  have st3 := for_to (m := wR1 (lC (mC (.int 6)) (lN))) (wR1_at (us := [.int ((6 : Nat) : Int)]) (h1 := h2) rfl (vR1_nat 6 (by omega))) (lim8 (by omega)) e4
  have st4 := asg_to (i := 9) (o1 y7 y8 x9 y11 y12 y13 y14 h3)
  have st5 := asg_to (i := 9) (o2 y7 y8 x9 y11 y12 y13 y14 h3)
  obtain ⟨y10, e6⟩ := bad_loop (n := n) (E := .dat (.list P)) (x1 := x1) (x5 := x5) (x8 := y8) (x9 := some (.dat (.list (B.take 5)))) (hr.vb (ns := ns) hi).1 (x7 := y7) (x11 := y11) (x12 := y12) (x13 := y13) (x14 := y14) h3 B x10 kb
  have st6 := for_to (o3 y7 y8 x9 y11 y12 y13 y14 h3) bl e6
  refine ⟨_, _, _, _, _, _, _, _, _, h3, f3, (seq_to st1).trans ((seq_to st2).trans ((seq_to st3).trans ((seq_to st4).trans ((seq_to st5).trans st6))))⟩
theorem turn_loop {ns : List Int} {n i : Nat} (hi : i < 6) {x1 : Option U} : ∀ (us : List U) (h : Mh) (x5 x6 x7 x8 x9 x10 x11 x12 x13 x14 : Option U), Fd h n → ∃ y5 y6 y7 y8 y9 y10 y11 y12 y13 y14 h', loopF (gtN 5) (turnB ns) us (Sy n i (.dat (.list (PT i))) x1 x5 x6 x7 x8 x9 x10 x11 x12 x13 x14) h = .nx (Sy n i (.dat (.list (PT i))) x1 y5 y6 y7 y8 y9 y10 y11 y12 y13 y14) h'
  | [], h, x5, x6, x7, x8, x9, x10, x11, x12, x13, x14, f => ⟨_, _, _, _, _, _, _, _, _, _, h, rfl⟩
  | u :: us, h, x5, x6, x7, x8, x9, x10, x11, x12, x13, x14, f => by
    obtain ⟨y6, y7, y8, y9, y10, y11, y12, y13, y14, h1, f1, e1⟩ := turn_at (ns := ns) hi f (x1 := x1) (x5 := some u) (x6 := x6) (x7 := x7) (x8 := x8) (x9 := x9) (x10 := x10) (x11 := x11) (x12 := x12) (x13 := x13) (x14 := x14)
    obtain ⟨z5, z6, z7, z8, z9, z10, z11, z12, z13, z14, h2, e2⟩ := turn_loop hi us h1 (some u) y6 y7 y8 y9 y10 y11 y12 y13 y14 f1
    exact ⟨z5, z6, z7, z8, z9, z10, z11, z12, z13, z14, h2, (loop_cons rfl e1).trans e2⟩
abbrev LL : List PyData := [SD 0, SD 1, SD 2, SD 3, SD 4, SD 5]
theorem ll_mem {x : PyData} (h : x ∈ LL) : ∃ i, i < 6 ∧ x = SD i := by
  rcases List.mem_cons.mp h
                          with rfl | h
  · exact ⟨0, by omega, rfl⟩
  rcases List.mem_cons.mp h
                          with rfl | h
  · exact ⟨1, by omega, rfl⟩
  rcases List.mem_cons.mp h
                          with rfl | h
  · exact ⟨2, by omega, rfl⟩
  rcases List.mem_cons.mp h
                          with rfl | h
  · exact ⟨3, by omega, rfl⟩
  rcases List.mem_cons.mp h
                          with rfl | h
  · exact ⟨4, by omega, rfl⟩
  rcases List.mem_cons.mp h
                          with rfl | h
  · exact ⟨5, by omega, rfl⟩
  cases h
theorem lists_d (ns : List Int) (h : Mh) : d_law_step_lists ns [] h = .ok (.dat (.list LL)) h := by
  unfold d_law_step_lists
  exact runP_ok (lists_is ns) h
theorem pats_d (ns : List Int) {i : Nat} (hi : i < 6) (h : Mh) : d_law_patterns ns [.int (many i : Nat)] h = .ok (.dat (.list (PT i))) h := by
  unfold d_law_patterns
  exact runP_ok (pats_at ns i hi) h
theorem cell_at {ns : List Int} (k : Nat) (h : Mh) {x2 x3 x4 x5 x6 x7 x8 x9 x10 x11 x12 x13 x14 : Option U} : ∃ y2 y3 y4 y5 y6 y7 y8 y9 y10 y11 y12 y13 y14 h', cellB ns [some .scr, some (.int (k : Nat)), x2, x3, x4, x5, x6, x7, x8, x9, x10, x11, x12, x13, x14] h = .nx [some .scr, some (.int (k : Nat)), y2, y3, y4, y5, y6, y7, y8, y9, y10, y11, y12, y13, y14] h' := by
  obtain ⟨d, s, e1⟩ := feed_at ns k h
  have f : Fd (h ++ [fd d s]) h.length := ⟨d, s, by simp⟩
  obtain ⟨x, hx, h2, f2, e2⟩ := pick_at (ns := ns) f (ds := LL) (by simp) (by simp)
  obtain ⟨i, hi, rfl⟩ := ll_mem hx
  have ep := pats_d ns hi h2
  have st1 := asg_to (i := 2) (mCall_to (d := d_law_feed ns) (a := lC (mV 0) (lC (mV 1) (lN))) (S := [some .scr, some (.int (k : Nat)), x2, x3, x4, x5, x6, x7, x8, x9, x10, x11, x12, x13, x14]) (h := h) (us := [.scr, .int (k : Nat)]) (h1 := h) rfl e1)
  have m0 : mCall0 (d_law_step_lists ns) [some .scr, some (.int (k : Nat)), some (.loc h.length), x3, x4, x5, x6, x7, x8, x9, x10, x11, x12, x13, x14] (h ++ [fd d s]) = .ok (.dat (.list LL)) (h ++ [fd d s]) := by
    unfold mCall0
    rw [lists_d]
  have st2 := asg_to (i := 3) (mCall_to (d := d_law_pick ns) (lC_to (A := mV 2) (u := .loc h.length) (h1 := h ++ [fd d s]) rfl (lC_to (L := lN) (us := []) m0 rfl)) e2)
  have st3 := asg_to (i := 4) (mCall_to (d := d_law_patterns ns) (lC_to (L := lN) (us := []) (mBt_to (S := [some .scr, some (.int (k : Nat)), some (.loc h.length), some (SU i), x4, x5, x6, x7, x8, x9, x10, x11, x12, x13, x14]) (h := h2) (L := lC (mV 3) (lN)) (us := [SU i]) (h1 := h2) rfl (len_at i ns h2)) rfl) ep)
  obtain ⟨y5, y6, y7, y8, y9, y10, y11, y12, y13, y14, h3, e4⟩ := turn_loop (ns := ns) hi (x1 := some (.int (k : Nat))) (upI 0 5) h2 x5 x6 x7 x8 x9 x10 x11 x12 x13 x14 f2
  have st4 := for_to (m := wR1 (lC (mC (.int 5)) (lN))) (wR1_at (us := [.int ((5 : Nat) : Int)]) (h1 := h2) rfl (vR1_nat 5 (by omega))) (lim8 (by omega)) e4
  exact ⟨_, _, _, _, _, _, _, _, _, _, _, _, _, h3, (seq_to st1).trans ((seq_to st2).trans ((seq_to st3).trans st4))⟩
theorem cell_loop {ns : List Int} : ∀ (us : List U) (h : Mh) (x1 x2 x3 x4 x5 x6 x7 x8 x9 x10 x11 x12 x13 x14 : Option U), (∀ u ∈ us, ∃ j : Nat, u = .int (j : Nat)) → ∃ S' h', loopF (gtN 1) (cellB ns) us [some .scr, x1, x2, x3, x4, x5, x6, x7, x8, x9, x10, x11, x12, x13, x14] h = .nx S' h'
  | [], h, x1, x2, x3, x4, x5, x6, x7, x8, x9, x10, x11, x12, x13, x14, _ => ⟨_, h, rfl⟩
  | u :: us, h, x1, x2, x3, x4, x5, x6, x7, x8, x9, x10, x11, x12, x13, x14, k => by
    obtain ⟨j, rfl⟩ := k u List.mem_cons_self
    obtain ⟨y2, y3, y4, y5, y6, y7, y8, y9, y10, y11, y12, y13, y14, h1, e1⟩ := cell_at (ns := ns) j h (x2 := x2) (x3 := x3) (x4 := x4) (x5 := x5) (x6 := x6) (x7 := x7) (x8 := x8) (x9 := x9) (x10 := x10) (x11 := x11) (x12 := x12) (x13 := x13) (x14 := x14)
    obtain ⟨S', h', e2⟩ := cell_loop us h1 (some (.int (j : Nat))) y2 y3 y4 y5 y6 y7 y8 y9 y10 y11 y12 y13 y14 (fun w hw => k w (List.mem_cons_of_mem _ hw))
    exact ⟨S', h', (loop_cons rfl e1).trans e2⟩
theorem many_at (ns : List Int) : ∃ m : Nat, m ≤ 3 ∧ ∀ S h, lC (mBt (fMax2) (lC (mC (.int 1)) (lC (mBt (fMin2) (lC (mC (.int 3)) (lC (mBt (fLenD ns) (lC (mV 0) (lN))) (lN)))) (lN)))) (lN) (some .scr :: S) h = .ok [.int (m : Nat)] h := by
  refine ⟨(if (if (ns.length : Int) < 3 then (ns.length : Int) else 3) > 1 then (if (ns.length : Int) < 3 then (ns.length : Int) else 3) else 1).toNat, ?_, fun S h => ?_⟩
  · split <;> split <;> omega
  · have q : fLenD ns [.scr] h = .ok (.int ns.length) h := rfl
    have e : (((if (if (ns.length : Int) < 3 then (ns.length : Int) else 3) > 1 then (if (ns.length : Int) < 3 then (ns.length : Int) else 3) else 1).toNat : Nat) : Int) = (if (if (ns.length : Int) < 3 then (ns.length : Int) else 3) > 1 then (if (ns.length : Int) < 3 then (ns.length : Int) else 3) else 1) := by
      split <;> split <;> omega
    simp only [lC, mBt, mC, mV, lN, List.getElem?_cons_zero, R.bind, q, fMin2, fMax2]
    rw [e]
theorem yes (ns : List Int) (hn : ns.length ≤ 63) : Yes (runB N_p_law.length (m_p_law ns) [.scr] []) := by
  obtain ⟨m, m3, em⟩ := many_at ns
  obtain ⟨S', h', e⟩ := cell_loop (ns := ns) (upI 0 m) [] none none none none none none none none none none none none none none (fun u hu => up_mem (i := 0) hu)
  have st := for_to (wR1_at (em [none, none, none, none, none, none, none, none, none, none, none, none, none, none] []) (vR1_nat m (by omega))) (lim8 (by omega)) e
  have e2 : m_p_law ns [some .scr, none, none, none, none, none, none, none, none, none, none, none, none, none, none] [] = .rt (.bl true) h' := by
    rw [law_is]
    exact (seq_to st).trans rfl
  show Yes (finR (m_p_law ns [some .scr, none, none, none, none, none, none, none, none, none, none, none, none, none, none] []))
  rw [e2]
  exact trivial
end Law

set_option maxRecDepth 1000000
open PySem PySem.W in
open PyProof.Rows in
set_option maxHeartbeats 0 in
theorem PySem.Challenge.cw_unlikehands_k07_rules_kept_holds : PySem.Challenge.rw_unlikehands_k07_rules_kept.Holds := by
  w_on
  o_law
  k_head
  (case hw => w_witness2)
  k_fill
  refine Vm.walk_lawG (k := 7) (N := Law.N_p_law) (m := Law.m_p_law) (l := PySem.Challenge.rw_unlikehands_k07_rules_kept) rfl rfl ⟨rfl, by decide, by decide⟩ (fun w h Y => PySem.W.kIn_of Y) Law.yes ?F
  case F =>
    intro w mg fa h KX G hmg
    refine' Law.all_mk KX G hmg ?ca0 ?ca1 ?ca2 ?ca3 ?kx1 ?bp1 ?tp1 ?xp1 ?kx2 ?bp2 ?tp2 ?xp2 ?kx3 ?bp3 ?tp3 ?lk3 ?rf3 ?sa3 ?in3 ?ti3 ?nf3 ?il3 ?ic3 ?ik3 ?a0 ?l0 ?c0 ?k0 ?a1 ?l1 ?c1 ?k1 ?a2 ?l2 ?c2 ?k2 ?a3 ?l3 ?c3 ?k3 ?a4 ?l4 ?c4 ?k4 ?a5 ?l5 ?c5 ?k5 ?a6 ?l6 ?c6 ?k6 ?a7 ?l7 ?c7 ?k7 ?a8 ?l8 ?c8 ?k8 ?a9 ?l9 ?c9 ?k9 ?a10 ?l10 ?c10 ?k10 ?a11 ?l11 ?c11 ?k11 ?a12 ?l12 ?c12 ?k12 ?a13 ?l13 ?c13 ?k13 ?a14 ?l14 ?c14 ?k14 ?a15 ?l15 ?c15 ?k15 ?a16 ?l16 ?c16 ?k16 ?a17 ?l17 ?c17 ?k17 ?a18 ?l18 ?c18 ?k18 ?a19 ?l19 ?c19 ?k19 ?a20 ?l20 ?c20 ?k20 ?a21 ?l21 ?c21 ?k21 ?a22 ?l22 ?c22 ?k22 ?a23 ?l23 ?c23 ?k23 ?a24 ?l24 ?c24 ?k24 ?a25 ?l25 ?c25 ?k25 ?a26 ?l26 ?c26 ?k26 ?a27 ?l27 ?c27 ?k27 ?a28 ?l28 ?c28 ?k28 ?a29 ?l29 ?c29 ?k29 ?a30 ?l30 ?c30 ?k30 ?gd_OPPOSITES ?ld_OPPOSITES ?gt_COUNTS ?gt_COUNTS_OF_GROUPS ?gt_LINKS_OF_GROUPS ?qx2 ?qx3 ?xf3 ?sd_OPPOSITES ?en_OPPOSITES ?kt_COUNTS ?kt_COUNTS_OF_GROUPS ?kt_LINKS_OF_GROUPS ?z_abs ?z_all ?z_bool ?z_enumerate ?z_int ?z_isinstance ?z_len ?z_list ?z_max ?z_min ?z_range ?z_repr ?z_set ?z_sorted ?z_str ?z_tuple ?g_MOST_COUNTED
    (case ca0 => first | k_is | kernel_rfl)
    (case ca1 => first | k_is | kernel_rfl)
    (case ca2 => first | k_is | kernel_rfl)
    (case ca3 => first | k_is | kernel_rfl)
    (case kx1 => first | k_is | kernel_rfl)
    (case bp1 => first | k_is | kernel_rfl)
    (case tp1 => first | k_is | kernel_rfl)
    (case xp1 => first | k_is | kernel_rfl)
    (case kx2 => first | k_is | kernel_rfl)
    (case bp2 => first | k_is | kernel_rfl)
    (case tp2 => first | k_is | kernel_rfl)
    (case xp2 => first | k_is | kernel_rfl)
    (case kx3 => first | k_is | kernel_rfl)
    (case bp3 => first | k_is | kernel_rfl)
    (case tp3 => first | k_is | kernel_rfl)
    (case lk3 => first | k_is | kernel_rfl)
    (case rf3 => first | k_is | kernel_rfl)
    (case sa3 => first | k_is | kernel_rfl)
    (case in3 => first | k_is | kernel_rfl)
    (case ti3 => first | k_is | kernel_rfl)
    (case nf3 => first | k_is | kernel_rfl)
    (case il3 => first | k_is | kernel_rfl)
    (case ic3 => first | k_is | kernel_rfl)
    (case ik3 => first | k_is | kernel_rfl)
    (case a0 => first | k_is | kernel_rfl)
    (case l0 => first | k_is | kernel_rfl)
    (case c0 => first | k_is | kernel_rfl)
    (case k0 => first | k_is | kernel_rfl)
    (case a1 => first | k_is | kernel_rfl)
    (case l1 => first | k_is | kernel_rfl)
    (case c1 => first | k_is | kernel_rfl)
    (case k1 => first | k_is | kernel_rfl)
    (case a2 => first | k_is | kernel_rfl)
    (case l2 => first | k_is | kernel_rfl)
    (case c2 => first | k_is | kernel_rfl)
    (case k2 => first | k_is | kernel_rfl)
    (case a3 => first | k_is | kernel_rfl)
    (case l3 => first | k_is | kernel_rfl)
    (case c3 => first | k_is | kernel_rfl)
    (case k3 => first | k_is | kernel_rfl)
    (case a4 => first | k_is | kernel_rfl)
    (case l4 => first | k_is | kernel_rfl)
    (case c4 => first | k_is | kernel_rfl)
    (case k4 => first | k_is | kernel_rfl)
    (case a5 => first | k_is | kernel_rfl)
    (case l5 => first | k_is | kernel_rfl)
    (case c5 => first | k_is | kernel_rfl)
    (case k5 => first | k_is | kernel_rfl)
    (case a6 => first | k_is | kernel_rfl)
    (case l6 => first | k_is | kernel_rfl)
    (case c6 => first | k_is | kernel_rfl)
    (case k6 => first | k_is | kernel_rfl)
    (case a7 => first | k_is | kernel_rfl)
    (case l7 => first | k_is | kernel_rfl)
    (case c7 => first | k_is | kernel_rfl)
    (case k7 => first | k_is | kernel_rfl)
    (case a8 => first | k_is | kernel_rfl)
    (case l8 => first | k_is | kernel_rfl)
    (case c8 => first | k_is | kernel_rfl)
    (case k8 => first | k_is | kernel_rfl)
    (case a9 => first | k_is | kernel_rfl)
    (case l9 => first | k_is | kernel_rfl)
    (case c9 => first | k_is | kernel_rfl)
    (case k9 => first | k_is | kernel_rfl)
    (case a10 => first | k_is | kernel_rfl)
    (case l10 => first | k_is | kernel_rfl)
    (case c10 => first | k_is | kernel_rfl)
    (case k10 => first | k_is | kernel_rfl)
    (case a11 => first | k_is | kernel_rfl)
    (case l11 => first | k_is | kernel_rfl)
    (case c11 => first | k_is | kernel_rfl)
    (case k11 => first | k_is | kernel_rfl)
    (case a12 => first | k_is | kernel_rfl)
    (case l12 => first | k_is | kernel_rfl)
    (case c12 => first | k_is | kernel_rfl)
    (case k12 => first | k_is | kernel_rfl)
    (case a13 => first | k_is | kernel_rfl)
    (case l13 => first | k_is | kernel_rfl)
    (case c13 => first | k_is | kernel_rfl)
    (case k13 => first | k_is | kernel_rfl)
    (case a14 => first | k_is | kernel_rfl)
    (case l14 => first | k_is | kernel_rfl)
    (case c14 => first | k_is | kernel_rfl)
    (case k14 => first | k_is | kernel_rfl)
    (case a15 => first | k_is | kernel_rfl)
    (case l15 => first | k_is | kernel_rfl)
    (case c15 => first | k_is | kernel_rfl)
    (case k15 => first | k_is | kernel_rfl)
    (case a16 => first | k_is | kernel_rfl)
    (case l16 => first | k_is | kernel_rfl)
    (case c16 => first | k_is | kernel_rfl)
    (case k16 => first | k_is | kernel_rfl)
    (case a17 => first | k_is | kernel_rfl)
    (case l17 => first | k_is | kernel_rfl)
    (case c17 => first | k_is | kernel_rfl)
    (case k17 => first | k_is | kernel_rfl)
    (case a18 => first | k_is | kernel_rfl)
    (case l18 => first | k_is | kernel_rfl)
    (case c18 => first | k_is | kernel_rfl)
    (case k18 => first | k_is | kernel_rfl)
    (case a19 => first | k_is | kernel_rfl)
    (case l19 => first | k_is | kernel_rfl)
    (case c19 => first | k_is | kernel_rfl)
    (case k19 => first | k_is | kernel_rfl)
    (case a20 => first | k_is | kernel_rfl)
    (case l20 => first | k_is | kernel_rfl)
    (case c20 => first | k_is | kernel_rfl)
    (case k20 => first | k_is | kernel_rfl)
    (case a21 => first | k_is | kernel_rfl)
    (case l21 => first | k_is | kernel_rfl)
    (case c21 => first | k_is | kernel_rfl)
    (case k21 => first | k_is | kernel_rfl)
    (case a22 => first | k_is | kernel_rfl)
    (case l22 => first | k_is | kernel_rfl)
    (case c22 => first | k_is | kernel_rfl)
    (case k22 => first | k_is | kernel_rfl)
    (case a23 => first | k_is | kernel_rfl)
    (case l23 => first | k_is | kernel_rfl)
    (case c23 => first | k_is | kernel_rfl)
    (case k23 => first | k_is | kernel_rfl)
    (case a24 => first | k_is | kernel_rfl)
    (case l24 => first | k_is | kernel_rfl)
    (case c24 => first | k_is | kernel_rfl)
    (case k24 => first | k_is | kernel_rfl)
    (case a25 => first | k_is | kernel_rfl)
    (case l25 => first | k_is | kernel_rfl)
    (case c25 => first | k_is | kernel_rfl)
    (case k25 => first | k_is | kernel_rfl)
    (case a26 => first | k_is | kernel_rfl)
    (case l26 => first | k_is | kernel_rfl)
    (case c26 => first | k_is | kernel_rfl)
    (case k26 => first | k_is | kernel_rfl)
    (case a27 => first | k_is | kernel_rfl)
    (case l27 => first | k_is | kernel_rfl)
    (case c27 => first | k_is | kernel_rfl)
    (case k27 => first | k_is | kernel_rfl)
    (case a28 => first | k_is | kernel_rfl)
    (case l28 => first | k_is | kernel_rfl)
    (case c28 => first | k_is | kernel_rfl)
    (case k28 => first | k_is | kernel_rfl)
    (case a29 => first | k_is | kernel_rfl)
    (case l29 => first | k_is | kernel_rfl)
    (case c29 => first | k_is | kernel_rfl)
    (case k29 => first | k_is | kernel_rfl)
    (case a30 => first | k_is | kernel_rfl)
    (case l30 => first | k_is | kernel_rfl)
    (case c30 => first | k_is | kernel_rfl)
    (case k30 => first | k_is | kernel_rfl)
    (case gd_OPPOSITES => first | k_is | kernel_rfl)
    (case ld_OPPOSITES => first | k_is | kernel_rfl)
    (case gt_COUNTS => first | k_is | kernel_rfl)
    (case gt_COUNTS_OF_GROUPS => first | k_is | kernel_rfl)
    (case gt_LINKS_OF_GROUPS => first | k_is | kernel_rfl)
    (case z_abs => first | k_is | kernel_rfl)
    (case z_all => first | k_is | kernel_rfl)
    (case z_bool => first | k_is | kernel_rfl)
    (case z_enumerate => first | k_is | kernel_rfl)
    (case z_int => first | k_is | kernel_rfl)
    (case z_isinstance => first | k_is | kernel_rfl)
    (case z_len => first | k_is | kernel_rfl)
    (case z_list => first | k_is | kernel_rfl)
    (case z_max => first | k_is | kernel_rfl)
    (case z_min => first | k_is | kernel_rfl)
    (case z_range => first | k_is | kernel_rfl)
    (case z_repr => first | k_is | kernel_rfl)
    (case z_set => first | k_is | kernel_rfl)
    (case z_sorted => first | k_is | kernel_rfl)
    (case z_str => first | k_is | kernel_rfl)
    (case z_tuple => first | k_is | kernel_rfl)
    (case g_MOST_COUNTED => first | k_is | kernel_rfl)
    (case qx2 => kernel_rfl)
    (case qx3 => kernel_rfl)
    (case xf3 => kernel_rfl)
    (case sd_OPPOSITES => rfl)
    (case en_OPPOSITES => exact ⟨⟨rfl, rfl, rfl⟩, _, _, rfl, .cons rfl ⟨_, rfl⟩ ⟨_, rfl⟩ (.cons rfl ⟨_, rfl⟩ ⟨_, rfl⟩ (.cons rfl ⟨_, rfl⟩ ⟨_, rfl⟩ (.cons rfl ⟨_, rfl⟩ ⟨_, rfl⟩ (.nil))))⟩)
    (case kt_COUNTS => kernel_rfl)
    (case kt_COUNTS_OF_GROUPS => kernel_rfl)
    (case kt_LINKS_OF_GROUPS => kernel_rfl)

